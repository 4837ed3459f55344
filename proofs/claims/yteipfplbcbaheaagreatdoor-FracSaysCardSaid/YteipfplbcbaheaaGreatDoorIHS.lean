/- Division rounded down, as the Go text of -/
import Derived.Test.YteipfplbcbaheaaGreatDoorIHK
import Derived.Test.YteipfplbcbaheaaGreatDoorIHL
namespace Go.Proofs.YteipfplbcbaheaaGreatDoor
open Go.RowKit
set_option maxHeartbeats 8000000
set_option maxRecDepth 100000
theorem lenU_mono {a b:Nat} (h:a≤b):(wd 4294967296 a).length≤(wd 4294967296 b).length:=wd_length_le (by omega) _ _ (Nat.lt_of_le_of_lt h (lt_of_wd_length (by omega) b _ (Nat.le_refl _)))
theorem lenU_add (a b n:Nat) (ha:(wd 4294967296 a).length≤n) (hb:(wd 4294967296 b).length≤n):(wd 4294967296 (a+b)).length≤n+1:=by
 refine wd_length_le (by omega) _ _ ?_
 have h1:=lt_of_wd_length (B:=4294967296) (by omega) a n ha
 have h2:=lt_of_wd_length (B:=4294967296) (by omega) b n hb
 rw [Nat.pow_succ]
 omega
theorem IntAt.overs {w w':World} {b o:Nat} {z:Int} {l:List Nat} (h:IntAt w b o z) (hb:But l w w') (hn:b ∉ l) (hc:∀ g ∈ l,∃ s,w.cell? ⟨g,0,none⟩=some (.bool s)):IntAt w' b o z:=by
 obtain ⟨h0,v,h1,hs⟩:=h
 refine ⟨hb.cell_some h0 hn,v,hb.cell_some h1 hn,?_⟩
 obtain ⟨a,cap,rfl,hcp,hk,hi⟩:=hs
 rcases Nat.eq_zero_or_pos (wd 4294967296 z.natAbs).length with h2 | h2
 ·exact ⟨a,cap,rfl,hcp,fun i hi=>by omega,fun b off e h1=>by omega⟩
 ·refine Sl.but (xs:=wd 4294967296 z.natAbs) ⟨a,cap,rfl,hcp,hk,hi⟩ hb (fun b' off cap' n e hm=>?_)
  simp only [Value.slice.injEq] at e
  obtain ⟨rfl,-,-⟩:=e
  obtain ⟨s,hs⟩:=hc b' hm
  exact (hi _ _ rfl h2).ne hs (by simp) rfl
theorem Slot.bool {w:World} {b:Nat} (h:Slot w b 0):∃ s,w.cell? ⟨b,0,none⟩=some (.bool s):=h.c0
theorem floor_parts (x y:Int) (hy:0<y):(0≤x.tmod y→x.tdiv y=x/y∧x.tmod y=x%y)∧(x.tmod y<0→x.tdiv y-1=x/y∧x.tmod y+y=x%y):=by
 have h1:=Int.tmod_add_mul_tdiv x y
 have h2:=Int.tmod_lt_of_pos x hy
 have h3:-y<x.tmod y:=by
  have:=Int.tmod_lt_of_pos (-x) hy
  rw [Int.neg_tmod] at this
  omega
 constructor
 ·intro h
  have:=(Int.ediv_emod_unique (a:=x) (r:=x.tmod y) (q:=x.tdiv y) hy).2 ⟨h1,h,h2⟩
  exact ⟨this.1.symm,this.2.symm⟩
 ·intro h
  have:=(Int.ediv_emod_unique (a:=x) (r:=x.tmod y+y) (q:=x.tdiv y-1) hy).2 ⟨by rw [Int.mul_sub];omega,by omega,by omega⟩
  exact ⟨this.1.symm,this.2.symm⟩
theorem divMod_any (zb rb b1 o1 b2 o2:Nat) (x y q r:Int) (w:World) (hz:Slot w zb 0) (hr:Slot w rb 0) (hne:zb≠rb) (hx:IntAt w b1 o1 x) (hy:IntAt w b2 o2 y) (hy0:0<y) (hlx:(wd 4294967296 x.natAbs).length<4000000) (hly:(wd 4294967296 y.natAbs).length<4000000) (hq:Hid (q=x/y)) (hr':Hid (r=x%y)) :
  Calls Tryz.prog 87 #[.pointer (some ⟨zb,0,none⟩),.pointer (some ⟨b1,o1,none⟩),.pointer (some ⟨b2,o2,none⟩),.pointer (some ⟨rb,0,none⟩)] w fun e w'=>e=.returned (.tuple #[.pointer (some ⟨zb,0,none⟩),.pointer (some ⟨rb,0,none⟩)])∧But [zb,rb] w w'∧IntAt w' zb 0 q∧IntAt w' rb 0 r∧Slot w' zb 0∧Slot w' rb 0:=by
 obtain ⟨fp1,fp2⟩:=floor_parts x y hy0
 have eq1:=tdiv_sgU x y (by omega)
 have et1:=tmod_sgU x y
 obtain ⟨q0,hq0⟩:∃ q0,q0=x.tdiv y:=⟨_,rfl⟩
 obtain ⟨t0,ht0⟩:∃ t0,t0=x.tmod y:=⟨_,rfl⟩
 rw [← hq0] at fp1 fp2 eq1
 rw [← ht0] at fp1 fp2 et1
 have lq:(wd 4294967296 q0.natAbs).length<4000000:=by
  rw [(sgU_sign _ _ q0 eq1).1]
  exact Nat.lt_of_le_of_lt (lenU_mono (Nat.div_le_self _ _)) hlx
 have lt:(wd 4294967296 t0.natAbs).length<4000000:=by
  rw [(sgU_sign _ _ t0 et1).1]
  exact Nat.lt_of_le_of_lt (lenU_mono (Nat.mod_le _ _)) hlx
 obtain ⟨W0,hW0⟩:∃ W0,W0=w.alloc (.cells #[.bool false,.slice none 0 0] 91):=⟨_,rfl⟩
 obtain ⟨g,hg⟩:∃ g,g=w.heap.size:=⟨_,rfl⟩
 have hs:=slot_new w 91
 rw [← hW0,← hg] at hs
 have hbw:But [] w W0:=by rw [hW0];exact (But.refl _ _).alloc _
 have ngz:zb≠g:=by have:=hz.lt;omega
 have ngr:rb≠g:=by have:=hr.lt;omega
 have ST:=hide (set_any g 0 b2 o2 y W0 hs (hy.but hbw) (by omega))
 have K0:Hid (∀ w1 v,But [] W0 w1→Sl .u32 w1 v (wd 4294967296 y.natAbs)→But [] w (putI w1 g 0 v (decide (y<0)))∧IntAt (putI w1 g 0 v (decide (y<0))) g 0 y):=fun w1 v k1 k2=>⟨(hbw.trans' k1).trans (put_but ..) (by simp [hg]),put_int (hs.but k1 (by simp)) _ _ k2⟩
 have QR:=hide (fun W (h:But [] w W)=>quoRemU_any zb rb b1 o1 b2 o2 x y q0 t0 W (hz.but h (by simp)) (hr.but h (by simp)) hne (hx.but h) (hy.but h) (by omega) (by omega) (by omega) (by omega) (by omega) eq1 et1)
 have HS:=hide (And.intro hz hr)
 have HW0:=hide hW0
 clear hW0 hs hbw eq1 et1 hq0 ht0 hx hy
 go_enter Tryz.func87,Tryz.ntmps87
 go_wp2_with fail
 rw [← unhide HW0,← hg]
 have HG:=hide hg
 clear hg
 refine (unhide ST).mono ?_
 rintro e w1 ⟨rfl,w0,v0,k1,k2,hw1⟩
 have K1:=unhide K0 w0 v0 k1 k2
 rw [← hw1] at K1
 obtain ⟨B1,I1⟩:=K1
 have QR1:=hide (unhide QR _ B1)
 have H1:=hide (And.intro B1 (And.intro I1 (And.intro ((unhide HS).1.but B1 (by simp)) ((unhide HS).2.but B1 (by simp)))))
 clear k1 k2 hw1 B1 I1 QR ST K0 HW0
 go_wp2_with fail
 refine (unhide QR1).mono ?_
 rintro e w2 ⟨rfl,B2,IZ,IR,SZ,SR⟩
 have I2:IntAt w2 g 0 y:=(unhide H1).2.1.overs B2 (by simp;omega) (fun g' hg'=>by
  simp at hg'
  rcases hg' with rfl | rfl
  ·exact (unhide H1).2.2.1.bool
  ·exact (unhide H1).2.2.2.bool)
 have BB:But [zb,rb] w w2:=(unhide H1).1.of_nil.trans B2 (fun x hx=>.inl hx)
 have c0:=IR.1
 have d0:=I2.1
 have F2:=hide (And.intro BB (And.intro IZ (And.intro IR (And.intro SZ (And.intro SR I2)))))
 clear B2 IZ IR SZ SR I2 BB QR1 H1 HS
 by_cases ht:t0<0
 ·rw [decide_eq_true ht] at c0
  rw [decide_eq_false (show ¬ y<0 by omega)] at d0
  have FQ:=hide (And.intro ((unhide hq).trans (fp2 ht).1.symm) ((unhide hr').trans (fp2 ht).2.symm))
  have l1:(wd 4294967296 (1:Int).natAbs).length<8388608:=by have:=len_le_two 1 (by omega);simpa using Nat.lt_of_le_of_lt this (by omega)
  have l2:(wd 4294967296 q.natAbs).length<8388608:=by
   have h1:q.natAbs≤q0.natAbs+1:=by rw [(unhide FQ).1];omega
   have h2:=lenU_mono h1
   have h3:=lenU_add q0.natAbs 1 4000000 (by omega) (by have:=len_le_two 1 (by omega);omega)
   omega
  have l3:(wd 4294967296 r.natAbs).length<8388608:=by
   have h1:r.natAbs≤y.natAbs:=by
    have e1:=Int.emod_nonneg x (show y≠0 by omega)
    have e2:=Int.emod_lt_of_pos x hy0
    rw [unhide hr']
    omega
   have h2:=lenU_mono h1
   omega
  have SU:=hide (fun (W:World) (g1:Nat) (hs:Slot W zb 0) (h1:IntAt W zb 0 q0) (h2:IntAt W g1 0 1)=>intSubU_all zb 0 zb 0 g1 0 q0 1 q W hs h1 h2 (by omega) l1 (by omega) (unhide FQ).1)
  have AD:=hide (fun (W:World) (hs:Slot W rb 0) (h1:IntAt W rb 0 t0) (h2:IntAt W g 0 y)=>intAddU_all rb 0 rb 0 g 0 t0 y r W hs h1 h2 (by omega) (by omega) (by omega) (unhide FQ).2)
  clear fp1 fp2 lq lt l1 l2 l3 hlx hly hq hr' FQ
  go_wp2_with fail
  refine (newInt_any 1 _ (by omega) (by omega)).mono ?_
  rintro e w3 ⟨rfl,B3,I3,S3⟩
  obtain ⟨g1,hg1⟩:∃ g1,g1=w2.heap.size:=⟨_,rfl⟩
  rw [← hg1]
  rw [← hg1] at I3
  have F3:Hid (But [zb,rb] w w3∧IntAt w3 zb 0 q0∧IntAt w3 rb 0 t0∧Slot w3 zb 0∧Slot w3 rb 0∧IntAt w3 g 0 y∧IntAt w3 g1 0 1):=by
   obtain ⟨BB,IZ,IR,SZ,SR,I2⟩:=unhide F2
   exact ⟨BB.trans' B3,IZ.but B3,IR.but B3,SZ.but B3 (by simp),SR.but B3 (by simp),I2.but B3,I3⟩
  clear B3 I3 S3 F2 c0 d0 hg1
  go_wp2_with fail
  refine (unhide SU _ g1 (unhide F3).2.2.2.1 (unhide F3).2.1 (unhide F3).2.2.2.2.2.2).mono ?_
  rintro e w5 ⟨rfl,w4,v4,B4,V4,hw5⟩
  have F5:Hid (But [zb,rb] w w5∧IntAt w5 zb 0 q∧IntAt w5 rb 0 t0∧Slot w5 zb 0∧Slot w5 rb 0∧IntAt w5 g 0 y):=by
   obtain ⟨BB,IZ,IR,SZ,SR,I2,-⟩:=unhide F3
   have SZ4:=SZ.but B4 (by simp)
   obtain ⟨a4,n4,c4,rfl⟩:=V4.slice
   rw [hw5]
   exact ⟨(BB.trans' B4).trans (put_but ..) (by simp),put_int SZ4 _ _ V4,put_int_other SZ4 _ _ (IR.but B4) (.inl (Ne.symm hne)),put_slot SZ4 _ _ _ _,put_slot_other _ _ (SR.but B4 (by simp)) (.inl (Ne.symm hne)),put_int_other SZ4 _ _ (I2.but B4) (.inl (Ne.symm ngz))⟩
  clear B4 V4 hw5 F3 SU
  go_wp2_with fail
  refine (unhide AD _ (unhide F5).2.2.2.2.1 (unhide F5).2.2.1 (unhide F5).2.2.2.2.2).mono ?_
  rintro e w7 ⟨rfl,w6,v6,B6,V6,hw7⟩
  have F7:Hid (But [zb,rb] w w7∧IntAt w7 zb 0 q∧IntAt w7 rb 0 r∧Slot w7 zb 0∧Slot w7 rb 0):=by
   obtain ⟨BB,IZ,IR,SZ,SR,I2⟩:=unhide F5
   have SR6:=SR.but B6 (by simp)
   obtain ⟨a6,n6,c6,rfl⟩:=V6.slice
   rw [hw7]
   exact ⟨(BB.trans' B6).trans (put_but ..) (by simp),put_int_other SR6 _ _ (IZ.but B6) (.inl hne),put_int SR6 _ _ V6,put_slot_other _ _ (SZ.but B6 (by simp)) (.inl hne),put_slot SR6 _ _ _ _⟩
  clear B6 V6 hw7 F5 AD
  go_wp2
  go_ret2
  exact ⟨rfl,(unhide F7).1,(unhide F7).2.1,(unhide F7).2.2.1,(unhide F7).2.2.2.1,(unhide F7).2.2.2.2⟩
 ·rw [decide_eq_false ht] at c0
  have FQ:=hide (And.intro ((unhide hq).trans (fp1 (by omega)).1.symm) ((unhide hr').trans (fp1 (by omega)).2.symm))
  clear fp1 fp2 lq lt hlx hly hq hr'
  go_wp2
  go_ret2
  refine ⟨rfl,(unhide F2).1,?_,?_,(unhide F2).2.2.2.1,(unhide F2).2.2.2.2.1⟩
  ·rw [(unhide FQ).1];exact (unhide F2).2.1
  ·rw [(unhide FQ).2];exact (unhide F2).2.2.1
theorem refFloor_any (xb:Nat) (f:Rat) (w:World) (hx:RatIs w xb f) (lf:LenU f 3000000) :
  Calls Tryz.prog 30 #[.pointer (some ⟨xb,0,none⟩)] w fun e w'=>∃ zb,e=.returned (.pointer (some ⟨zb,0,none⟩))∧But [] w w'∧IntAt w' zb 0 (fl f)∧w.heap.size≤zb:=by
 have hfd:0<f.den:=Nat.pos_of_ne_zero f.den_nz
 obtain ⟨lf1,lf2⟩:=lf
 obtain ⟨W0,hW0⟩:∃ W0,W0=(w.alloc (.cells #[.bool false,.slice none 0 0] 91)).alloc (.cells #[.bool false,.slice none 0 0] 91):=⟨_,rfl⟩
 have s0:Slot W0 w.heap.size 0:=by rw [hW0];exact (slot_new w _).but ((But.refl [] _).alloc _) (by simp)
 have s1:Slot W0 (w.heap.size+1) 0:=by rw [hW0];exact slot_new' w _ _
 have hbw:But [] w W0:=by rw [hW0];exact ((But.refl _ _).alloc _).alloc _
 have hx0:=RatIs.but hx hbw
 obtain ⟨g0,hg0⟩:∃ g0,g0=w.heap.size:=⟨_,rfl⟩
 obtain ⟨g1,hg1⟩:∃ g1,g1=w.heap.size+1:=⟨_,rfl⟩
 rw [← hg0] at s0
 rw [← hg1] at s1
 have NU:=hide (ratNumU_any xb f.num (f.den:Int) W0 hx0)
 have DE:=hide (ratDenomU_any xb f.num f.den W0 hx0 hfd (by omega))
 have DM:=hide (fun (W:World) (g2:Nat) (h:But [] W0 W) (hd:IntAt W g2 0 (f.den:Int))=>divMod_any g0 g1 xb 0 g2 0 f.num (f.den:Int) (fl f) (f.num%(f.den:Int)) W (s0.but h (by simp)) (s1.but h (by simp)) (by omega) (hx0.up.but h) hd (by omega) (by omega) (by rw [Int.natAbs_natCast];omega) rfl rfl)
 have HW0:=hide hW0
 have HB:=hide (And.intro hbw (And.intro hg0 hg1))
 clear hW0 s0 s1 hbw hx0 hx lf1 lf2 hfd
 go_enter Tryz.func30,Tryz.ntmps30
 go_wp2_with fail
 rw [← unhide HW0]
 try rw [← hg1]
 try rw [← hg0]
 clear hg0 hg1
 refine (unhide NU).mono ?_
 rintro e w1 ⟨rfl,hw⟩
 obtain rfl:=hw.symm
 clear hw
 go_wp2_with fail
 refine (unhide DE).mono ?_
 rintro e w1 ⟨rfl,B1,I1⟩
 obtain ⟨g2,hg2⟩:∃ g2,g2=W0.heap.size:=⟨_,rfl⟩
 rw [← hg2]
 rw [← hg2] at I1
 have DM1:=hide (unhide DM w1 g2 B1 I1)
 have H1:Hid (But [] w w1):=(unhide HB).1.trans' B1
 clear B1 I1 hg2 DM DE NU HW0
 go_wp2_with fail
 refine (unhide DM1).mono ?_
 rintro e w2 ⟨rfl,B2,IZ,-,-,-⟩
 have F2:Hid (But [] w w2∧IntAt w2 g0 0 (fl f)∧w.heap.size≤g0):=⟨(unhide H1).trans B2 (fun x hx=>by have:=(unhide HB).2;simp at hx;omega),IZ,by have:=(unhide HB).2;omega⟩
 clear B2 IZ DM1 H1
 go_wp2
 go_ret
 exact ⟨g0,rfl,(unhide F2).1,(unhide F2).2.1,(unhide F2).2.2⟩
end Go.Proofs.YteipfplbcbaheaaGreatDoor

namespace Go.Proofs.YteipfplbcbaheaaGreatDoor
open Go.RowKit
set_option maxHeartbeats 4000000
set_option maxRecDepth 100000
theorem lenU_int_add (x y:Int) (n:Nat) (hx:(wd 4294967296 x.natAbs).length≤n) (hy:(wd 4294967296 y.natAbs).length≤n):(wd 4294967296 (x+y).natAbs).length≤n+1 :=
 Nat.le_trans (lenU_mono (Int.natAbs_add_le x y)) (lenU_add _ _ n hx hy)
theorem lenU_int_sub (x y:Int) (n:Nat) (hx:(wd 4294967296 x.natAbs).length≤n) (hy:(wd 4294967296 y.natAbs).length≤n):(wd 4294967296 (x-y).natAbs).length≤n+1:=by
 rw [Int.sub_eq_add_neg]
 exact lenU_int_add x (-y) n hx (by rw [Int.natAbs_neg];exact hy)
theorem lenU_of (f:Rat) (p q:Int) (n:Nat) (hq:q≠0) (h:f.num*q=p*(f.den:Int)) (hp:(wd 4294967296 p.natAbs).length≤n) (hl:(wd 4294967296 q.natAbs).length≤n):LenU f n:=by
 obtain ⟨e1,e2⟩:=red_rat p q hq f h
 constructor
 ·have h1:f.num.natAbs=p.natAbs/Nat.gcd p.natAbs q.natAbs:=by
   rw [e1,redN_abs]
   split <;> simp
  rw [h1]
  exact Nat.le_trans (lenU_mono (Nat.div_le_self _ _)) hp
 ·have h2:f.den=q.natAbs/Nat.gcd p.natAbs q.natAbs:=by
   have:=e2
   rw [redD] at this
   omega
  rw [h2]
  exact Nat.le_trans (lenU_mono (Nat.div_le_self _ _)) hl
theorem LenU.mono {f:Rat} {m n:Nat} (h:LenU f m) (hmn:m≤n):LenU f n:=⟨Nat.le_trans h.1 hmn,Nat.le_trans h.2 hmn⟩
theorem cross_addU (f g:Rat):(f+g).num*((f.den:Int)*(g.den:Int))=(f.num*(g.den:Int)+g.num*(f.den:Int))*((f+g).den:Int):=by
 have h:=cross_add f g
 grind
theorem cross_subU (f g:Rat):(f-g).num*((f.den:Int)*(g.den:Int))=(f.num*(g.den:Int)-g.num*(f.den:Int))*((f-g).den:Int):=by
 have h:=cross_add f (-g)
 rw [← Rat.sub_eq_add_neg] at h
 simp only [Rat.neg_num,Rat.neg_den] at h
 grind
theorem lenU_prod (x y:Int) (m n:Nat) (hx:(wd 4294967296 x.natAbs).length≤m) (hy:(wd 4294967296 y.natAbs).length≤n):(wd 4294967296 (x*y).natAbs).length≤m+n:=by
 rw [Int.natAbs_mul]
 have:=lenU_mul x.natAbs y.natAbs
 omega
theorem LenU.mul {f g:Rat} {m n:Nat} (hf:LenU f m) (hg:LenU g n):LenU (f*g) (m+n):=by
 have hfd:0<f.den:=Nat.pos_of_ne_zero f.den_nz
 have hgd:0<g.den:=Nat.pos_of_ne_zero g.den_nz
 have hc:=cross_mul f g
 rw [Int.natCast_mul] at hc
 exact lenU_of _ _ _ _ (Int.mul_ne_zero (by omega) (by omega)) hc (lenU_prod _ _ _ _ hf.1 hg.1) (lenU_prod _ _ _ _ (by rw [Int.natAbs_natCast];exact hf.2) (by rw [Int.natAbs_natCast];exact hg.2))
theorem LenU.sub {f g:Rat} {m n:Nat} (hf:LenU f m) (hg:LenU g n):LenU (f-g) (m+n+1):=by
 have hfd:0<f.den:=Nat.pos_of_ne_zero f.den_nz
 have hgd:0<g.den:=Nat.pos_of_ne_zero g.den_nz
 have d1:(wd 4294967296 ((f.den:Nat):Int).natAbs).length≤m:=by rw [Int.natAbs_natCast];exact hf.2
 have d2:(wd 4294967296 ((g.den:Nat):Int).natAbs).length≤n:=by rw [Int.natAbs_natCast];exact hg.2
 refine lenU_of _ _ _ _ (Int.mul_ne_zero (by omega) (by omega)) (cross_subU f g) (lenU_int_sub _ _ _ (lenU_prod _ _ _ _ hf.1 d2) ?_) (Nat.le_succ_of_le (lenU_prod _ _ _ _ d1 d2))
 rw [Nat.add_comm m n]
 exact lenU_prod _ _ _ _ hg.1 d1
theorem refAdd_any (xb yb:Nat) (f g:Rat) (w:World) (hx:RatIs w xb f) (hy:RatIs w yb g) (lf:LenU f 2000000) (lg:LenU g 2000000) :
  Calls Tryz.prog 15 #[.pointer (some ⟨xb,0,none⟩),.pointer (some ⟨yb,0,none⟩)] w fun e w'=>∃ zb,e=.returned (.pointer (some ⟨zb,0,none⟩))∧But [] w w'∧RatIs w' zb (f+g)∧w.heap.size≤zb:=by
 have hfd:0<f.den:=Nat.pos_of_ne_zero f.den_nz
 have hgd:0<g.den:=Nat.pos_of_ne_zero g.den_nz
 have hQ0:(f.den:Int)*(g.den:Int)≠0:=Int.mul_ne_zero (by omega) (by omega)
 obtain ⟨e1,e2⟩:=red_rat (f.num*(g.den:Int)+g.num*(f.den:Int)) ((f.den:Int)*(g.den:Int)) hQ0 (f+g) (cross_addU f g)
 obtain ⟨W0,hW0⟩:∃ W0,W0=w.alloc (.cells #[.bool false,.slice none 0 0,.bool false,.slice none 0 0] 93):=⟨_,rfl⟩
 have hs:=ratSlots w 93
 have hbw:But [] w W0:=by rw [hW0];exact (But.refl _ _).alloc _
 rw [← hW0] at hs
 obtain ⟨lf1,lf2⟩:=lf
 obtain ⟨lg1,lg2⟩:=lg
 have d1:(wd 4294967296 ((f.den:Nat):Int).natAbs).length≤2000000:=by rw [Int.natAbs_natCast];exact lf2
 have d2:(wd 4294967296 ((g.den:Nat):Int).natAbs).length≤2000000:=by rw [Int.natAbs_natCast];exact lg2
 have p1:=lenU_prod f.num (g.den:Int) _ _ lf1 d2
 have p2:=lenU_prod g.num (f.den:Int) _ _ lg1 d1
 have p3:=lenU_prod (f.den:Int) (g.den:Int) _ _ d1 d2
 have p4:=lenU_int_add _ _ _ p1 p2
 have MU:=hide (ratAddU_any w.heap.size xb yb f.num g.num f.den g.den W0 hs.1 hs.2 (RatAt.but hx hbw) (RatAt.but hy hbw) hfd hgd (by omega) (by omega) (by omega) (by omega) _ _ _ _ rfl rfl rfl rfl (by omega) (by omega) (by omega) (by omega) hQ0 (f+g).num ((f+g).den:Int) e1 e2)
 have HW0:=hide hW0
 have HBW:=hide hbw
 clear hW0 hbw hs e1 e2 hQ0 p1 p2 p3 p4 d1 d2 lf1 lf2 lg1 lg2 hx hy hfd hgd
 go_enter Tryz.func15,Tryz.ntmps15
 go_wp2_with fail
 rw [← unhide HW0]
 refine (unhide MU).mono ?_
 rintro e w1 ⟨rfl,h1,h2⟩
 have FIN:=hide (And.intro ((unhide HBW).trans h1 (by simp)) h2)
 clear h1 h2 MU
 go_wp2
 go_ret
 exact ⟨w.heap.size,rfl,(unhide FIN).1,(unhide FIN).2,Nat.le_refl _⟩
theorem refSub_any (xb yb:Nat) (f g:Rat) (w:World) (hx:RatIs w xb f) (hy:RatIs w yb g) (lf:LenU f 2000000) (lg:LenU g 2000000) :
  Calls Tryz.prog 17 #[.pointer (some ⟨xb,0,none⟩),.pointer (some ⟨yb,0,none⟩)] w fun e w'=>∃ zb,e=.returned (.pointer (some ⟨zb,0,none⟩))∧But [] w w'∧RatIs w' zb (f-g)∧w.heap.size≤zb:=by
 have hfd:0<f.den:=Nat.pos_of_ne_zero f.den_nz
 have hgd:0<g.den:=Nat.pos_of_ne_zero g.den_nz
 have hQ0:(f.den:Int)*(g.den:Int)≠0:=Int.mul_ne_zero (by omega) (by omega)
 obtain ⟨e1,e2⟩:=red_rat (f.num*(g.den:Int)-g.num*(f.den:Int)) ((f.den:Int)*(g.den:Int)) hQ0 (f-g) (cross_subU f g)
 obtain ⟨W0,hW0⟩:∃ W0,W0=w.alloc (.cells #[.bool false,.slice none 0 0,.bool false,.slice none 0 0] 93):=⟨_,rfl⟩
 have hs:=ratSlots w 93
 have hbw:But [] w W0:=by rw [hW0];exact (But.refl _ _).alloc _
 rw [← hW0] at hs
 obtain ⟨lf1,lf2⟩:=lf
 obtain ⟨lg1,lg2⟩:=lg
 have d1:(wd 4294967296 ((f.den:Nat):Int).natAbs).length≤2000000:=by rw [Int.natAbs_natCast];exact lf2
 have d2:(wd 4294967296 ((g.den:Nat):Int).natAbs).length≤2000000:=by rw [Int.natAbs_natCast];exact lg2
 have p1:=lenU_prod f.num (g.den:Int) _ _ lf1 d2
 have p2:=lenU_prod g.num (f.den:Int) _ _ lg1 d1
 have p3:=lenU_prod (f.den:Int) (g.den:Int) _ _ d1 d2
 have p4:=lenU_int_sub _ _ _ p1 p2
 have MU:=hide (ratSubU_any w.heap.size xb yb f.num g.num f.den g.den W0 hs.1 hs.2 (RatAt.but hx hbw) (RatAt.but hy hbw) hfd hgd (by omega) (by omega) (by omega) (by omega) _ _ _ _ rfl rfl rfl rfl (by omega) (by omega) (by omega) (by omega) hQ0 (f-g).num ((f-g).den:Int) e1 e2)
 have HW0:=hide hW0
 have HBW:=hide hbw
 clear hW0 hbw hs e1 e2 hQ0 p1 p2 p3 p4 d1 d2 lf1 lf2 lg1 lg2 hx hy hfd hgd
 go_enter Tryz.func17,Tryz.ntmps17
 go_wp2_with fail
 rw [← unhide HW0]
 refine (unhide MU).mono ?_
 rintro e w1 ⟨rfl,h1,h2⟩
 have FIN:=hide (And.intro ((unhide HBW).trans h1 (by simp)) h2)
 clear h1 h2 MU
 go_wp2
 go_ret
 exact ⟨w.heap.size,rfl,(unhide FIN).1,(unhide FIN).2,Nat.le_refl _⟩
end Go.Proofs.YteipfplbcbaheaaGreatDoor

namespace Go.Proofs.YteipfplbcbaheaaGreatDoor
open Go.RowKit
set_option maxHeartbeats 4000000
set_option maxRecDepth 100000
theorem refDivZ_any (xb yb:Nat) (g:Rat) (w:World) (hy:RatIs w yb g) (lg:LenU g 2000000) (hg0:g.num=0) :
  Calls Tryz.prog 21 #[.pointer (some ⟨xb,0,none⟩),.pointer (some ⟨yb,0,none⟩)] w fun e w'=>∃ zb,e=.returned (.pointer (some ⟨zb,0,none⟩))∧But [] w w':=by
 have SG:=hide (ratSign_any yb g.num (g.den:Int) w hy 0 (by show 0=_;rw [hg0];rfl) (by have:=lg.1;omega))
 clear hy lg hg0
 go_enter Tryz.func21,Tryz.ntmps21
 go_wp2_with fail
 refine (unhide SG).mono ?_
 rintro e w1 ⟨rfl,hw⟩
 obtain rfl:=hw.symm
 clear hw
 go_wp2
 go_ret
 exact ⟨w.heap.size,rfl,(But.refl _ _).alloc _⟩
def rpow (f:Rat):Nat→Rat
 | 0=>1
 | n+1=>rpow f n*f
theorem rpow_parts (f:Rat):∀ n,(rpow f n).num=f.num^n∧(rpow f n).den=f.den^n
 | 0=>⟨by rw [Int.pow_zero];rfl,by rw [Nat.pow_zero];rfl⟩
 | n+1=>by
  obtain ⟨h1,h2⟩:=rpow_parts f n
  have hd:0<f.den:=Nat.pos_of_ne_zero f.den_nz
  have hco:Nat.Coprime f.num.natAbs f.den:=f.reduced
  have hc:=cross_mul (rpow f n) f
  rw [h1,h2] at hc
  have hq:((rpow f n*f).num*((f.den^(n+1):Nat):Int)=f.num^(n+1)*((rpow f n*f).den:Int)):=by
   rw [Nat.pow_succ,Int.pow_succ]
   exact hc
  exact rat_of_coprime (f.num^(n+1)) (f.den^(n+1)) (Nat.pos_iff_ne_zero.1 (Nat.pow_pos hd)) (by rw [Int.natAbs_pow];exact Nat.Coprime.pow _ _ hco) _ hq
theorem lenU_rpow {f:Rat} {m:Nat} (h:LenU f m):∀ n,LenU (rpow f n) (m*n+1)
 | 0=>⟨by show (wd 4294967296 1).length≤_;exact Nat.le_trans (wd_length_le (B:=4294967296) (by omega) 1 1 (by omega)) (by omega),by show (wd 4294967296 1).length≤_;exact Nat.le_trans (wd_length_le (B:=4294967296) (by omega) 1 1 (by omega)) (by omega)⟩
 | n+1=>((lenU_rpow h n).mul h).mono (by rw [Nat.mul_succ];omega)
theorem refPower_any (ab:Nat) (f:Rat) (n:Nat) (w:World) (ha:RatIs w ab f) (lf:LenU f 2) (hn:n≤200) :
  Calls Tryz.prog 24 #[.pointer (some ⟨ab,0,none⟩),.int .i64 (n:Int)] w fun e w'=>∃ zb,e=.returned (.pointer (some ⟨zb,0,none⟩))∧But [] w w'∧RatIs w' zb (rpow f n):=by
 have HA:=hide ha
 have HL:=hide lf
 have IN:=hide (refInt_any 1 w (by omega) (by omega))
 clear ha lf
 go_enter Tryz.func24,Tryz.ntmps24
 go_wp2_with fail
 refine (unhide IN).mono ?_
 rintro e w1 ⟨ib,rfl,B1,I1⟩
 have K1:=hide (And.intro B1 I1)
 clear B1 I1 IN
 go_wp2
 go_loopw [5,6] (fun p i wr=>∃ (k pb:Nat),k≤n∧i=.int .i64 (k:Int)∧p=.pointer (some ⟨pb,0,none⟩)∧Hid (But [] w wr∧RatIs wr pb (rpow f k))) (fun _ i _=>n-(intOf i).toNat)
 case atStart=>exact ⟨0,ib,by omega,rfl,rfl,(unhide K1).1,(unhide K1).2⟩
 case round =>
  obtain ⟨k,pb,hk,rfl,rfl,HI⟩:=hrel
  rename World=>wr
  by_cases hlt:k<n
  ·have MU:=hide (refMul_any pb ab (rpow f k) f wr (unhide HI).2 ((unhide HA).but (unhide HI).1) ((lenU_rpow (unhide HL) k).mono (by omega)) ((unhide HL).mono (by omega)))
   go_wp2_with fail
   refine (unhide MU).mono ?_
   rintro e w2 ⟨zb,rfl,B2,R2,-⟩
   have K2:Hid (But [] w w2∧RatIs w2 zb (rpow f (k+1))):=⟨(unhide HI).1.trans' B2,R2⟩
   clear B2 R2 MU
   go_wp2
   refine ⟨⟨k+1,zb,by omega,by go_num,rfl,(unhide K2).1,(unhide K2).2⟩,?_⟩
   simp [intOf];omega
  ·have hke:k=n:=by omega
   subst hke
   go_wp2
   go_ret
   exact ⟨pb,rfl,(unhide HI).1,(unhide HI).2⟩
theorem refWhole_any (nb:Nat) (z:Int) (w:World) (hz:IntAt w nb 0 z) (hl:(wd 4294967296 z.natAbs).length<8388608) :
  Calls Tryz.prog 33 #[.pointer (some ⟨nb,0,none⟩)] w fun e w'=>∃ zb,e=.returned (.pointer (some ⟨zb,0,none⟩))∧But [] w w'∧RatIs w' zb ((z:Int):Rat):=by
 obtain ⟨W0,hW0⟩:∃ W0,W0=w.alloc (.cells #[.bool false,.slice none 0 0,.bool false,.slice none 0 0] 93):=⟨_,rfl⟩
 have hs:=ratSlots w 93
 have hbw:But [] w W0:=by rw [hW0];exact (But.refl _ _).alloc _
 rw [← hW0] at hs
 have SI:=hide (ratSetIntU_any w.heap.size nb 0 z W0 hs.1 hs.2 (hz.but hbw) hl)
 have HW0:=hide hW0
 have HB:=hide hbw
 clear hW0 hs hbw hz hl
 go_enter Tryz.func33,Tryz.ntmps33
 go_wp2_with fail
 rw [← unhide HW0]
 refine (unhide SI).mono ?_
 rintro e w1 ⟨rfl,B1,R1⟩
 have F1:Hid (But [] w w1∧RatIs w1 w.heap.size ((z:Int):Rat)):=⟨(unhide HB).trans B1 (by simp),by unfold RatIs;rw [(int_num z).1,(int_num z).2];exact R1⟩
 clear B1 R1 SI
 go_wp2
 go_ret
 exact ⟨w.heap.size,rfl,(unhide F1).1,(unhide F1).2⟩
def halfR:Rat:=mkRat 1 2
theorem halfR_parts:halfR.num=1∧halfR.den=2:=by decide
theorem halfR_two:halfR*((2:Int):Rat)=1:=by
 obtain ⟨h1,h2⟩:=halfR_parts
 obtain ⟨i1,i2⟩:=int_num 2
 have h:=cross_mul halfR ((2:Int):Rat)
 rw [h1,h2,i1,i2] at h
 obtain ⟨e1,e2⟩:=rat_of_coprime 1 1 (by omega) (by decide) (halfR*((2:Int):Rat)) (by omega)
 exact Rat.ext (by rw [e1];rfl) (by rw [e2];rfl)
def nearI (f:Rat):Int:=if up f then fl f+1 else fl f
theorem nearR_int (f:Rat):nearR f=((nearI f:Int):Rat):=by
 unfold nearR nearI
 split
 ·rw [Rat.intCast_add]
 ·rfl
theorem num_pos_iff (x:Rat):0<x.num↔0<x:=by
 rw [Rat.lt_iff]
 simp
theorem up_of (f:Rat):up f=(decide (0<(f-((fl f:Int):Rat)-halfR).num) || (decide ((f-((fl f:Int):Rat)-halfR).num=0) && decide ((fl f).natAbs%2=1))):=by
 have ht:tw2 f=(f-((fl f:Int):Rat))*((2:Int):Rat):=rfl
 have h2:=halfR_two
 obtain ⟨i1,i2⟩:=int_num 1
 obtain ⟨j1,j2⟩:=int_num (fl f)
 have hd:=den_pos (tw2 f)
 have c1:(0<cmpZ ((tw2 f).num*(((1:Int):Rat).den:Int)) (((1:Int):Rat).num*((tw2 f).den:Int)))↔0<(f-((fl f:Int):Rat)-halfR).num:=by
  rw [num_pos_iff,i1,i2]
  have h3:(0<cmpZ ((tw2 f).num*((1:Nat):Int)) (1*((tw2 f).den:Int)))↔((tw2 f).den:Int)<(tw2 f).num:=by
   unfold cmpZ
   constructor
   ·intro h
    split at h
    ·omega
    ·split at h <;> omega
   ·intro h
    rw [if_neg (by omega),if_neg (by omega)]
    omega
  rw [h3]
  have h4:((tw2 f).den:Int)<(tw2 f).num↔(1:Rat)<tw2 f:=by
   rw [Rat.lt_iff]
   simp
  rw [h4,ht]
  constructor <;> intro h <;> grind
 have c2:(cmpZ ((tw2 f).num*(((1:Int):Rat).den:Int)) (((1:Int):Rat).num*((tw2 f).den:Int))=0)↔(f-((fl f:Int):Rat)-halfR).num=0:=by
  rw [Rat.num_eq_zero,i1,i2]
  have h3:(cmpZ ((tw2 f).num*((1:Nat):Int)) (1*((tw2 f).den:Int))=0)↔((tw2 f).den:Int)=(tw2 f).num:=by
   unfold cmpZ
   constructor
   ·intro h
    split at h
    ·omega
    ·split at h <;> omega
   ·intro h
    rw [if_neg (by omega),if_pos (by omega)]
  rw [h3]
  have h4:((tw2 f).den:Int)=(tw2 f).num↔(1:Rat)=tw2 f:=by
   constructor
   ·intro h
    have h5:((tw2 f).den:Int)≤(tw2 f).num:=by omega
    have h6:(tw2 f).num≤((tw2 f).den:Int):=by omega
    refine Rat.le_antisymm ?_ ?_
    ·rw [Rat.le_iff];simpa using h5
    ·rw [Rat.le_iff];simpa using h6
   ·intro h;rw [← h];rfl
  rw [h4,ht]
  constructor <;> intro h <;> grind
 unfold up
 rw [decide_eq_decide.2 c1,decide_eq_decide.2 c2,j1]
theorem lenU_half:LenU halfR 1:=by
 obtain ⟨h1,h2⟩:=halfR_parts
 exact ⟨by rw [h1];exact wd_length_le (B:=4294967296) (by omega) 1 1 (by omega),by rw [h2];exact wd_length_le (B:=4294967296) (by omega) 2 1 (by omega)⟩
theorem sign_cases (z:Int):(0<z∧z.sign=1)∨(z=0∧z.sign=0)∨(z<0∧z.sign=-1):=by
 rcases Int.lt_trichotomy z 0 with h | h | h
 ·exact .inr (.inr ⟨h,Int.sign_eq_neg_one_of_neg h⟩)
 ·exact .inr (.inl ⟨h,by rw [h];rfl⟩)
 ·exact .inl ⟨h,Int.sign_eq_one_of_pos h⟩
end Go.Proofs.YteipfplbcbaheaaGreatDoor
