/- The greatest common divisor of two whole -/
import Derived.Deep.LoopGhost
import Derived.Test.YtollloafckcogaaGreatDoorKFF1
namespace Go.Proofs.YtollloafckcogaaGreatDoor
open Go.RowKit
set_option maxHeartbeats 8000000
set_option maxRecDepth 100000
def GcdInv (w:World) (X Y:Nat) (Y':Nat) (vx vy:Value) (wr:World):Prop:=∃ X',Sl .u64 wr vx (wd 18446744073709551616 X')∧Sl .u64 wr vy (wd 18446744073709551616 Y')∧Y'≤X'∧X'≤X∧Nat.gcd X' Y'=Nat.gcd X Y∧But [] w wr∧(2≤(wd 18446744073709551616 Y').length→Pair w.heap.size wr vx vy X' Y')
theorem natGcd_long (vx vy:Value) (X Y:Nat) (w:World) (hx:Sl .u64 w vx (wd 18446744073709551616 X)) (hy:Sl .u64 w vy (wd 18446744073709551616 Y)) (hle:Y<X) (h1:1<Y) (hl:(wd 18446744073709551616 X).length≤1000000) (u v:Value) (r:Int) (hcmp:Hid (Calls Tryz.prog 129 #[u,v] w fun e w'=>e=.returned (.int .i64 r)∧∃ q,w'=w.drewN q)) (huv:(u=vx∧v=vy∧r=1)∨(u=vy∧v=vx∧r=-1)) :
  Calls Tryz.prog 108 #[u,v] w fun e w'=>∃ v',e=.returned v'∧Sl .u64 w' v' (wd 18446744073709551616 (Nat.gcd X Y))∧But [] w w':=by
 have hlen:=wd_len_mono (Nat.le_of_lt hle)
 have hYl:0<(wd 18446744073709551616 Y).length:=by rw [Nat.pos_iff_ne_zero];intro e;rw [wd_len_zero (by omega)] at e;omega
 have HO:=hide (fun W (h:Sl .u64 W vy (wd 18446744073709551616 Y))=>natOne_any vy Y W h (by omega) false (by show false=_;simp;omega))
 rcases hx.open with ⟨e,-⟩ | ⟨-,b1,o1,c1,rfl,hc1,-,-⟩
 ·rw [e,List.length_nil] at hlen;omega
 rcases hy.open with ⟨e,-⟩ | ⟨-,b2,o2,c2,rfl,hc2,-,-⟩
 ·rw [e] at hYl;simp at hYl
 have HC1:=hide (fun W (h:Sl .u64 W (.slice (some ⟨b1,o1,none⟩) (wd 18446744073709551616 X).length c1) (wd 18446744073709551616 X))=>clone_any b1 o1 c1 (wd 18446744073709551616 X) W h (by omega) (by omega))
 have HC2:=hide (fun W (h:Sl .u64 W (.slice (some ⟨b2,o2,none⟩) (wd 18446744073709551616 Y).length c2) (wd 18446744073709551616 Y))=>clone_any b2 o2 c2 (wd 18446744073709551616 Y) W h (by omega) (by omega))
 have HX:=hide hx
 have HY:=hide hy
 clear hx hy
 generalize hnx:(wd 18446744073709551616 X).length=nx at *
 generalize hny:(wd 18446744073709551616 Y).length=ny at *
 have NX:=hide hnx
 have NY:=hide hny
 clear hnx hny
 have n0:((ny:Int)==0)=false:=beq_eq_false_iff_ne.2 (by omega)
 by_cases h2:2≤ny
 ·rcases huv with ⟨rfl,rfl,rfl⟩ | ⟨rfl,rfl,rfl⟩
  all_goals
   go_enter Tryz.func108,Tryz.ntmps108
   go_wp2_with fail
   refine (unhide hcmp).mono ?_
   rintro e w1 ⟨rfl,q,rfl⟩
   go_wp2_with fail
   refine (unhide HO _ (by exact unhide HY)).mono ?_
   rintro e w1 ⟨rfl,hw⟩
   obtain rfl:=hw.symm
   clear hw
   go_wp2_with fail
   refine (unhide HC1 _ (by exact unhide HX)).mono ?_
   rintro e w2 ⟨v1,rfl,hv1,hb1,ho1,g1,d1,rfl⟩
   have B1:Hid (But [] w w2):=((But.refl [] _).drewN q).trans' hb1
   have P1:=hide (And.intro hv1 ho1)
   clear hv1 hb1 ho1
   go_wp2_with fail
   refine (unhide HC2 _ ((unhide HY).but_nil (unhide B1))).mono ?_
   rintro e w3 ⟨v2,rfl,hv2,hb2,ho2,g2,d2,rfl⟩
   have hap:g1<w2.heap.size:=(unhide P1).1.lt (by rw [unhide NX];omega) g1 0 _ _ rfl
   have hap2:w2.heap.size≤g2:=(ho2 _ _ _ _ rfl).1
   have A0:Hid (GcdInv w X Y Y (.slice (some ⟨g1,0,none⟩) nx d1) (.slice (some ⟨g2,0,none⟩) ny d2) w3) :=
    ⟨X,(unhide P1).1.but_nil hb2,hv2,Nat.le_of_lt hle,Nat.le_refl _,rfl,(unhide B1).trans' hb2,fun _=>⟨(unhide P1).1.but_nil hb2,hv2,(unhide P1).2.but (unhide P1).1 hb2,ho2.mono (unhide B1).size,fun b off n c b' off' n' c' e1 e2=>by
     simp only [Value.slice.injEq,Option.some.injEq,Addr.mk.injEq] at e1 e2
     obtain ⟨⟨rfl,-⟩,-⟩:=e1
     obtain ⟨⟨rfl,-⟩,-⟩:=e2
     omega⟩⟩
   clear hv2 hb2 ho2 P1 B1 HC1 HC2 hap hap2
   go_wp2_with fail
   go_loopg [0,1] Y (fun k p1 p2 wr=>Hid (GcdInv w X Y k p1 p2 wr))
   case atStart=>exact A0
   case round =>
    clear A0
    obtain ⟨X',hs1,hs2,hYX,hXX,hg,hB,hP⟩:=unhide hrel
    have hl1:=wd_len_mono hXX
    have hl2:=wd_len_mono hYX
    have HI:=hide (And.intro hs1 (And.intro hs2 (And.intro hYX (And.intro hXX (And.intro hg (And.intro hB hP))))))
    rw [unhide NX] at hl1
    by_cases hk2:2≤(wd 18446744073709551616 gk).length
    ·have HL:=hide (lessened_any w.heap.size _ _ X' gk wr (hP hk2) hk2 hYX (by omega) hB.size)
     obtain ⟨a1,d1,rfl,-,-⟩:=hs1
     obtain ⟨a2,d2,rfl,-,-⟩:=hs2
     clear hrel hg hB hP
     generalize (wd 18446744073709551616 X').length=m1 at *
     generalize (wd 18446744073709551616 gk).length=m2 at *
     go_wp2_with fail
     refine (unhide HL).mono ?_
     rintro e w5 ⟨v1,v2,X2,Y2,rfl,hp2,hle2,hlt2,hX2,hg2,l,hlo,hbl⟩
     have R:Hid (GcdInv w X Y Y2 v1 v2 w5):=⟨X2,hp2.s1,hp2.s2,hle2,by omega,by rw [hg2];exact (unhide HI).2.2.2.2.1,(unhide HI).2.2.2.2.2.1.trans hbl (fun x hx=>.inr (hlo x hx)),fun _=>hp2⟩
     clear hp2 hg2 hlo hbl
     go_wp2
     go_roundg Y2
     case measure=>exact hlt2
     case rel=>exact R
    ·rcases Nat.eq_zero_or_pos gk with hz | hz
     ·subst hz
      rw [Nat.gcd_zero_right] at hg
      rw [wd_zero] at hs2
      obtain ⟨a1,d1,rfl,-,-⟩:=id hs1
      obtain ⟨a2,d2,rfl,-,-⟩:=hs2
      have R:=hide (And.intro hs1 hB)
      have HG:=hide hg
      clear hrel hg hB hP hs1 hk2 HI hl2
      generalize (wd 18446744073709551616 X').length=m1 at *
      go_wp2
      go_ret
      exact ⟨_,rfl,by rw [← unhide HG];exact (unhide R).1,(unhide R).2⟩
     ·have hkB:gk < 18446744073709551616:=by
       rcases Nat.lt_or_ge gk 18446744073709551616 with h | h
       ·exact h
       ·exact absurd (wd_len_two gk h) hk2
      rcases word_open hs2 hkB with ⟨rfl,-⟩ | ⟨-,b,off,c,rfl,hcell⟩
      ·omega
      have HBY:=hide (byWord_any _ X' gk wr hs1 (by omega) hz hkB)
      have hmB:X' % gk < 18446744073709551616:=Nat.lt_trans (Nat.mod_lt _ hz) hkB
      have GW:=hide (fun W=>gcdWords_any gk (X' % gk) W hkB hmB)
      have hgB:Nat.gcd gk (X' % gk) < 18446744073709551616:=Nat.lt_of_le_of_lt (Nat.gcd_le_left _ hz) hkB
      have HG:Hid (Nat.gcd gk (X' % gk)=Nat.gcd X Y):=by show _=_;rw [gcd_mod];exact hg
      have HOF:=hide (fun W=>natOf_any (Nat.gcd gk (X' % gk)) hgB W)
      obtain ⟨a1,d1,rfl,-,-⟩:=id hs1
      have HB:=hide hB
      clear hrel hg hB hP hs1 hs2 HI hl2
      generalize (wd 18446744073709551616 X').length=m1 at *
      go_wp2_with fail
      refine (unhide HBY).mono ?_
      rintro e w5 ⟨v5,rfl,-,hb5⟩
      have hc5:=hb5.cell_some hcell (by simp)
      have HB5:=hide hb5
      clear hb5 hcell
      go_wp2_with fail
      refine (unhide GW _).mono ?_
      rintro e w6 ⟨rfl,q6,rfl⟩
      go_wp2_with fail
      refine (unhide HOF _).mono ?_
      rintro e w7 ⟨v7,rfl,hv7,hb7,-⟩
      rw [unhide HG] at hv7
      have R:=hide (And.intro hv7 ((unhide HB).trans' ((unhide HB5).trans' (((But.refl [] _).drewN q6).trans' hb7))))
      clear hv7 hb7
      go_wp2
      go_ret
      exact ⟨v7,rfl,(unhide R).1,(unhide R).2⟩
 ·rcases huv with ⟨rfl,rfl,rfl⟩ | ⟨rfl,rfl,rfl⟩
  all_goals
   go_enter Tryz.func108,Tryz.ntmps108
   go_wp2_with fail
   refine (unhide hcmp).mono ?_
   rintro e w1 ⟨rfl,q,rfl⟩
   go_wp2_with fail
   refine (unhide HO _ (by exact unhide HY)).mono ?_
   rintro e w1 ⟨rfl,hw⟩
   obtain rfl:=hw.symm
   clear hw
   have A0:Hid (GcdInv w X Y Y (.slice (some ⟨b1,o1,none⟩) nx c1) (.slice (some ⟨b2,o2,none⟩) ny c2) (w.drewN q)) :=
    ⟨X,unhide HX,unhide HY,Nat.le_of_lt hle,Nat.le_refl _,rfl,(But.refl [] _).drewN q,fun h=>by rw [unhide NY] at h;omega⟩
   go_wp2_with fail
   go_loopg [0,1] Y (fun k p1 p2 wr=>Hid (GcdInv w X Y k p1 p2 wr))
   case atStart=>exact A0
   case round =>
    clear A0
    obtain ⟨X',hs1,hs2,hYX,hXX,hg,hB,hP⟩:=unhide hrel
    have hl1:=wd_len_mono hXX
    have hl2:=wd_len_mono hYX
    have HI:=hide (And.intro hs1 (And.intro hs2 (And.intro hYX (And.intro hXX (And.intro hg (And.intro hB hP))))))
    rw [unhide NX] at hl1
    by_cases hk2:2≤(wd 18446744073709551616 gk).length
    ·have HL:=hide (lessened_any w.heap.size _ _ X' gk wr (hP hk2) hk2 hYX (by omega) hB.size)
     obtain ⟨a1,d1,rfl,-,-⟩:=hs1
     obtain ⟨a2,d2,rfl,-,-⟩:=hs2
     clear hrel hg hB hP
     generalize (wd 18446744073709551616 X').length=m1 at *
     generalize (wd 18446744073709551616 gk).length=m2 at *
     go_wp2_with fail
     refine (unhide HL).mono ?_
     rintro e w5 ⟨v1,v2,X2,Y2,rfl,hp2,hle2,hlt2,hX2,hg2,l,hlo,hbl⟩
     have R:Hid (GcdInv w X Y Y2 v1 v2 w5):=⟨X2,hp2.s1,hp2.s2,hle2,by omega,by rw [hg2];exact (unhide HI).2.2.2.2.1,(unhide HI).2.2.2.2.2.1.trans hbl (fun x hx=>.inr (hlo x hx)),fun _=>hp2⟩
     clear hp2 hg2 hlo hbl
     go_wp2
     go_roundg Y2
     case measure=>exact hlt2
     case rel=>exact R
    ·rcases Nat.eq_zero_or_pos gk with hz | hz
     ·subst hz
      rw [Nat.gcd_zero_right] at hg
      rw [wd_zero] at hs2
      obtain ⟨a1,d1,rfl,-,-⟩:=id hs1
      obtain ⟨a2,d2,rfl,-,-⟩:=hs2
      have R:=hide (And.intro hs1 hB)
      have HG:=hide hg
      clear hrel hg hB hP hs1 hk2 HI hl2
      generalize (wd 18446744073709551616 X').length=m1 at *
      go_wp2
      go_ret
      exact ⟨_,rfl,by rw [← unhide HG];exact (unhide R).1,(unhide R).2⟩
     ·have hkB:gk < 18446744073709551616:=by
       rcases Nat.lt_or_ge gk 18446744073709551616 with h | h
       ·exact h
       ·exact absurd (wd_len_two gk h) hk2
      rcases word_open hs2 hkB with ⟨rfl,-⟩ | ⟨-,b,off,c,rfl,hcell⟩
      ·omega
      have HBY:=hide (byWord_any _ X' gk wr hs1 (by omega) hz hkB)
      have hmB:X' % gk < 18446744073709551616:=Nat.lt_trans (Nat.mod_lt _ hz) hkB
      have GW:=hide (fun W=>gcdWords_any gk (X' % gk) W hkB hmB)
      have hgB:Nat.gcd gk (X' % gk) < 18446744073709551616:=Nat.lt_of_le_of_lt (Nat.gcd_le_left _ hz) hkB
      have HG:Hid (Nat.gcd gk (X' % gk)=Nat.gcd X Y):=by show _=_;rw [gcd_mod];exact hg
      have HOF:=hide (fun W=>natOf_any (Nat.gcd gk (X' % gk)) hgB W)
      obtain ⟨a1,d1,rfl,-,-⟩:=id hs1
      have HB:=hide hB
      clear hrel hg hB hP hs1 hs2 HI hl2
      generalize (wd 18446744073709551616 X').length=m1 at *
      go_wp2_with fail
      refine (unhide HBY).mono ?_
      rintro e w5 ⟨v5,rfl,-,hb5⟩
      have hc5:=hb5.cell_some hcell (by simp)
      have HB5:=hide hb5
      clear hb5 hcell
      go_wp2_with fail
      refine (unhide GW _).mono ?_
      rintro e w6 ⟨rfl,q6,rfl⟩
      go_wp2_with fail
      refine (unhide HOF _).mono ?_
      rintro e w7 ⟨v7,rfl,hv7,hb7,-⟩
      rw [unhide HG] at hv7
      have R:=hide (And.intro hv7 ((unhide HB).trans' ((unhide HB5).trans' (((But.refl [] _).drewN q6).trans' hb7))))
      clear hv7 hb7
      go_wp2
      go_ret
      exact ⟨v7,rfl,(unhide R).1,(unhide R).2⟩
theorem natGcd_any (vx vy:Value) (X Y:Nat) (w:World) (hx:Sl .u64 w vx (wd 18446744073709551616 X)) (hy:Sl .u64 w vy (wd 18446744073709551616 Y)) (hlx:(wd 18446744073709551616 X).length≤1000000) (hly:(wd 18446744073709551616 Y).length≤1000000) :
  Calls Tryz.prog 108 #[vx,vy] w fun e w'=>∃ v',e=.returned v'∧Sl .u64 w' v' (wd 18446744073709551616 (Nat.gcd X Y))∧But [] w w':=by
 have hcmp:=natCmp_any vx vy X Y w hx hy (by omega) (by omega)
 have HX:=hide hx
 have HY:=hide hy
 rcases cmpN_cases X Y with ⟨hlt,hc⟩ | ⟨heq,hc⟩ | ⟨hgt,hc⟩
 ·rw [hc] at hcmp
  rcases Nat.lt_or_ge 1 X with h1 | h1
  ·have:=natGcd_long vy vx Y X w hy hx hlt h1 hly vx vy (-1) hcmp (.inr ⟨rfl,rfl,rfl⟩)
   rw [Nat.gcd_comm] at this
   exact this
  ·have HC:=hide hcmp
   have HO:=hide (fun W (h:Sl .u64 W vx (wd 18446744073709551616 X))=>natOne_any vx X W h (by omega) true)
   rcases Nat.eq_zero_or_pos X with h0 | h0
   ·subst h0
    rw [Nat.gcd_zero_left]
    rw [wd_zero] at hx
    obtain ⟨a1,c1,rfl,-,-⟩:=hx
    obtain ⟨a2,c2,rfl,-,-⟩:=hy
    clear hcmp hc HO
    generalize (wd 18446744073709551616 Y).length=ny at *
    go_enter Tryz.func108,Tryz.ntmps108
    go_wp2_with fail
    refine (unhide HC).mono ?_
    rintro e w1 ⟨rfl,q,rfl⟩
    go_wp2
    go_ret
    exact ⟨_,rfl,unhide HY,(But.refl _ _).drewN q⟩
   ·have hX1:X=1:=by omega
    subst hX1
    rw [Nat.gcd_one_left]
    have hl1:(wd 18446744073709551616 1).length=1:=by rw [wd_word 1 (by omega) (by omega)];rfl
    have HO1:=hide (fun W h=>unhide HO W h (by show true=_;rfl))
    obtain ⟨a1,c1,rfl,-,-⟩:=hx
    obtain ⟨a2,c2,rfl,-,-⟩:=hy
    clear hcmp hc HO
    rw [hl1] at *
    generalize (wd 18446744073709551616 Y).length=ny at *
    clear hl1
    go_enter Tryz.func108,Tryz.ntmps108
    go_wp2_with fail
    refine (unhide HC).mono ?_
    rintro e w1 ⟨rfl,q,rfl⟩
    go_wp2_with fail
    refine (unhide HO1 _ (by exact unhide HX)).mono ?_
    rintro e w1 ⟨rfl,hw⟩
    obtain rfl:=hw.symm
    clear hw
    go_wp2
    go_ret
    exact ⟨_,rfl,unhide HX,(But.refl _ _).drewN q⟩
 ·rw [hc] at hcmp
  have HC:=hide hcmp
  subst heq
  rw [Nat.gcd_self]
  obtain ⟨a1,c1,rfl,-,-⟩:=hx
  obtain ⟨a2,c2,rfl,-,-⟩:=hy
  clear hcmp hc
  generalize (wd 18446744073709551616 X).length=nx at *
  go_enter Tryz.func108,Tryz.ntmps108
  go_wp2_with fail
  refine (unhide HC).mono ?_
  rintro e w1 ⟨rfl,q,rfl⟩
  go_wp2
  go_ret
  exact ⟨_,rfl,unhide HX,(But.refl _ _).drewN q⟩
 ·rw [hc] at hcmp
  rcases Nat.lt_or_ge 1 Y with h1 | h1
  ·exact natGcd_long vx vy X Y w hx hy hgt h1 hlx vx vy 1 hcmp (.inl ⟨rfl,rfl,rfl⟩)
  ·have HC:=hide hcmp
   have HO:=hide (fun W (h:Sl .u64 W vy (wd 18446744073709551616 Y))=>natOne_any vy Y W h (by omega) true)
   rcases Nat.eq_zero_or_pos Y with h0 | h0
   ·subst h0
    rw [Nat.gcd_zero_right]
    rw [wd_zero] at hy
    obtain ⟨a1,c1,rfl,-,-⟩:=hx
    obtain ⟨a2,c2,rfl,-,-⟩:=hy
    clear hcmp hc HO
    generalize (wd 18446744073709551616 X).length=nx at *
    go_enter Tryz.func108,Tryz.ntmps108
    go_wp2_with fail
    refine (unhide HC).mono ?_
    rintro e w1 ⟨rfl,q,rfl⟩
    go_wp2
    go_ret
    exact ⟨_,rfl,unhide HX,(But.refl _ _).drewN q⟩
   ·have hX1:Y=1:=by omega
    subst hX1
    rw [Nat.gcd_one_right]
    have hl1:(wd 18446744073709551616 1).length=1:=by rw [wd_word 1 (by omega) (by omega)];rfl
    have HO1:=hide (fun W h=>unhide HO W h (by show true=_;rfl))
    obtain ⟨a1,c1,rfl,-,-⟩:=hx
    obtain ⟨a2,c2,rfl,-,-⟩:=hy
    clear hcmp hc HO
    rw [hl1] at *
    generalize (wd 18446744073709551616 X).length=nx at *
    clear hl1
    go_enter Tryz.func108,Tryz.ntmps108
    go_wp2_with fail
    refine (unhide HC).mono ?_
    rintro e w1 ⟨rfl,q,rfl⟩
    go_wp2_with fail
    refine (unhide HO1 _ (by exact unhide HY)).mono ?_
    rintro e w1 ⟨rfl,hw⟩
    obtain rfl:=hw.symm
    clear hw
    go_wp2
    go_ret
    exact ⟨_,rfl,unhide HY,(But.refl _ _).drewN q⟩
end Go.Proofs.YtollloafckcogaaGreatDoor

namespace Go.Proofs.YtollloafckcogaaGreatDoor
open Go.RowKit
set_option maxHeartbeats 4000000
set_option maxRecDepth 100000
theorem signedSum_any (s t:Bool) (v1 v2:Value) (m n:Nat) (w:World) (h1:Sl .u64 w v1 (wd 18446744073709551616 m)) (h2:Sl .u64 w v2 (wd 18446744073709551616 n)) (hl1:(wd 18446744073709551616 m).length<1073741824) (hl2:(wd 18446744073709551616 n).length<1073741824) :
  Calls Tryz.prog 113 #[.bool s,v1,.bool t,v2] w fun e w'=>∃ (r:Bool) (v:Value) (M:Nat),e=.returned (.tuple #[.bool r,v])∧Sl .u64 w' v (wd 18446744073709551616 M)∧sgn s m+sgn t n=sgn r M∧M≤m+n∧But [] w w':=by
 have HA:=hide (natAdd_any v1 v2 m n w h1 h2 hl1 hl2)
 have HC:=hide (natCmp_any v1 v2 m n w h1 h2 (by omega) (by omega))
 have H1:=hide h1
 have H2:=hide h2
 have HS1:=hide (fun (W:World) (a:Sl .u64 W v1 (wd 18446744073709551616 m)) (b:Sl .u64 W v2 (wd 18446744073709551616 n)) (h:n≤m)=>natSub_any v1 v2 m n W a b hl1 h)
 have HS2:=hide (fun (W:World) (a:Sl .u64 W v1 (wd 18446744073709551616 m)) (b:Sl .u64 W v2 (wd 18446744073709551616 n)) (h:m≤n)=>natSub_any v2 v1 n m W b a hl2 h)
 obtain ⟨a1,c1,rfl,-,-⟩:=h1
 obtain ⟨a2,c2,rfl,-,-⟩:=h2
 generalize (wd 18446744073709551616 m).length=l1 at *
 generalize (wd 18446744073709551616 n).length=l2 at *
 by_cases hst:s=t
 ·subst hst
  have hb:(s==s)=true:=by simp
  have HE:Hid (sgn s m+sgn s n=sgn s (m+n)):=by show _=_;cases s <;> simp [sgn] <;> omega
  go_enter Tryz.func113,Tryz.ntmps113
  go_wp2_with fail
  refine (unhide HA).mono ?_
  rintro e w1 ⟨v,rfl,hv,hb1⟩
  have R:=hide (And.intro hv hb1)
  clear hv hb1
  go_wp2
  go_ret2
  exact ⟨s,v,m+n,rfl,(unhide R).1,unhide HE,Nat.le_refl _,(unhide R).2⟩
 ·have hb:(s==t)=false:=by simp [hst]
  have ht:t=!s:=by cases s <;> cases t <;> simp_all
  rcases Nat.lt_or_ge m n with hlt | hge
  ·rw [cmpN_lt hlt] at HC
   have HE:Hid (sgn s m+sgn t n=sgn t (n-m)):=by
    show _=_
    rw [ht]
    cases s <;> simp [sgn] <;> omega
   clear ht
   go_enter Tryz.func113,Tryz.ntmps113
   go_wp2_with fail
   refine (unhide HC).mono ?_
   rintro e w1 ⟨rfl,q,rfl⟩
   go_wp2_with fail
   refine (unhide HS2 _ (by exact unhide H1) (by exact unhide H2) (Nat.le_of_lt hlt)).mono ?_
   rintro e w2 ⟨v,rfl,hv,hb1⟩
   have R:=hide (And.intro hv (((But.refl [] _).drewN q).trans' hb1))
   clear hv hb1
   go_wp2
   go_ret2
   exact ⟨t,v,n-m,rfl,(unhide R).1,unhide HE,by omega,(unhide R).2⟩
  ·have hc0:=cmpN_ge hge
   have HE:Hid (sgn s m+sgn t n=sgn s (m-n)):=by
    show _=_
    rw [ht]
    cases s <;> simp [sgn] <;> omega
   clear ht
   generalize cmpN m n=r at *
   have hr:decide (0≤r)=true:=by simp;omega
   go_enter Tryz.func113,Tryz.ntmps113
   go_wp2_with fail
   refine (unhide HC).mono ?_
   rintro e w1 ⟨rfl,q,rfl⟩
   go_wp2_with fail
   refine (unhide HS1 _ (by exact unhide H1) (by exact unhide H2) hge).mono ?_
   rintro e w2 ⟨v,rfl,hv,hb1⟩
   have R:=hide (And.intro hv (((But.refl [] _).drewN q).trans' hb1))
   clear hv hb1
   go_wp2
   go_ret2
   exact ⟨s,v,m-n,rfl,(unhide R).1,unhide HE,by omega,(unhide R).2⟩
theorem fracSign_any (v:Value) (f:Rat) (w:World) (hf:FracAt w v f) :
  Calls Tryz.prog 66 #[v] w fun e w'=>e=.returned (.int .i64 f.num.sign)∧But [] w w':=by
 rcases hf with ⟨hp,hq,rfl⟩ | ⟨hbig,b,v1,v2,rfl,-,-,-,-⟩
 ·by_cases hn:f.num<0
  ·have e:f.num.sign=-1:=Int.sign_eq_neg_one_of_neg hn
   rw [e]
   have hd:decide (f.num<0)=true:=decide_eq_true hn
   rw [hd]
   generalize f.num.natAbs=p at *
   generalize f.den=q at *
   clear hn hd e
   go_enter Tryz.func66,Tryz.ntmps66
   go_wp2
   go_ret
   exact ⟨rfl,(But.refl _ _).alloc _⟩
  ·have hd:decide (f.num<0)=false:=decide_eq_false hn
   rw [hd]
   rcases Nat.eq_zero_or_pos f.num.natAbs with h0 | h0
   ·have e:f.num.sign=0:=by rw [Int.sign_eq_zero_iff_zero];omega
    rw [e,h0]
    generalize f.den=q at *
    clear hn hd e h0 hp
    go_enter Tryz.func66,Tryz.ntmps66
    go_wp2
    go_ret
    exact ⟨rfl,(But.refl _ _).alloc _⟩
   ·have e:f.num.sign=1:=Int.sign_eq_one_of_pos (by omega)
    rw [e]
    generalize f.num.natAbs=p at *
    generalize f.den=q at *
    have n0:((p:Int)==0)=false:=beq_eq_false_iff_ne.2 (by omega)
    clear hn hd e
    go_enter Tryz.func66,Tryz.ntmps66
    go_wp2
    go_ret
    exact ⟨rfl,(But.refl _ _).alloc _⟩
 ·have hn0:f.num≠0:=by
   intro e0
   have e1:=f.reduced
   rw [e0,Int.natAbs_zero,Nat.coprime_zero_left] at e1
   rw [e0] at hbig
   simp at hbig
   omega
  by_cases hn:f.num<0
  ·have e:f.num.sign=-1:=Int.sign_eq_neg_one_of_neg hn
   have hd:decide (f.num<0)=true:=decide_eq_true hn
   rw [e,hd]
   clear hn hd e hbig hn0
   go_enter Tryz.func66,Tryz.ntmps66
   go_wp2
   go_ret
   exact ⟨rfl,(But.refl _ _).alloc _⟩
  ·have e:f.num.sign=1:=Int.sign_eq_one_of_pos (by omega)
   have hd:decide (f.num<0)=false:=decide_eq_false hn
   rw [e,hd]
   clear hn hd e hbig hn0
   go_enter Tryz.func66,Tryz.ntmps66
   go_wp2
   go_ret
   exact ⟨rfl,(But.refl _ _).alloc _⟩
theorem neg_at {w:World} {f:Rat} (r:Bool) (hr:r=decide (-f.num<0)) (v:Value) (h:(f.num.natAbs < 18446744073709551616∧f.den < 18446744073709551616∧v=.agg #[.bool r,.int .u64 (f.num.natAbs:Int),.int .u64 ((f.den:Int)-1),.pointer none])∨((18446744073709551616≤f.num.natAbs∨18446744073709551616≤f.den)∧∃ b v1 v2,v=.agg #[.bool r,.int .u64 0,.int .u64 0,.pointer (some ⟨b,0,none⟩)]∧w.cell? ⟨b,0,none⟩=some v1∧w.cell? ⟨b,1,none⟩=some v2∧Sl .u64 w v1 (wd 18446744073709551616 f.num.natAbs)∧Sl .u64 w v2 (wd 18446744073709551616 f.den))):FracAt w v (-f):=by
 unfold FracAt
 rw [Rat.neg_num,Rat.neg_den,Int.natAbs_neg,← hr]
 exact h
theorem fracNeg_any (v:Value) (f:Rat) (w:World) (hf:FracAt w v f) :
  Calls Tryz.prog 65 #[v] w fun e w'=>∃ v',e=.returned v'∧FracAt w' v' (-f)∧But [] w w':=by
 have HSg:=hide (fun W (h:FracAt W v f)=>fracSign_any v f W h)
 have HF:=hide hf
 obtain ⟨s,x,y,p,rfl,hs,hsh⟩:∃ s x y p,v=.agg #[.bool s,.int .u64 x,.int .u64 y,.pointer p]∧s=decide (f.num<0)∧(∀ (W:World) (r:Bool),r=decide (-f.num<0)→But [] w W→FracAt W (.agg #[.bool r,.int .u64 x,.int .u64 y,.pointer p]) (-f)):=by
  rcases hf with ⟨hp,hq,rfl⟩ | ⟨hbig,b,v1,v2,rfl,k0,k1,k2,k3⟩
  ·exact ⟨_,_,_,_,rfl,rfl,fun W r hr _=>neg_at r hr _ (.inl ⟨hp,hq,rfl⟩)⟩
  ·exact ⟨_,_,_,_,rfl,rfl,fun W r hr hb=>neg_at r hr _ (.inr ⟨hbig,b,v1,v2,rfl,hb.cell_some k0 (by simp),hb.cell_some k1 (by simp),k2.but_nil hb,k3.but_nil hb⟩)⟩
 have HH:=hide hsh
 clear hsh hf
 by_cases hn:f.num<0
 ·have e:s=true:=by rw [hs];exact decide_eq_true hn
  subst e
  have hr:Hid (false=decide (-f.num<0)):=by show _=_;rw [decide_eq_false];omega
  clear hs hn HSg HF
  go_enter Tryz.func65,Tryz.ntmps65
  go_wp2
  have hB:=((But.refl [] w).alloc (.cells #[.bool false,.int .u64 x,.int .u64 y,.pointer p] 27)).alloc (.cells #[.bool false,.int .u64 x,.int .u64 y,.pointer p] 27)
  exact bodyPost_ret (v:=.agg #[.bool false,.int .u64 x,.int .u64 y,.pointer p]) (by simp [results,Tryz.results65,go_sem]) rfl ⟨_,rfl,unhide HH _ false (unhide hr) hB,hB⟩
 ·have e:s=false:=by rw [hs];exact decide_eq_false hn
  subst e
  obtain ⟨r,hr⟩:∃ r,r=decide (-f.num<0):=⟨_,rfl⟩
  obtain ⟨z,hz⟩:∃ z,z=f.num.sign:=⟨_,rfl⟩
  have hzr:(z != 0)=r:=by
   rw [hr,hz]
   by_cases h0:f.num=0
   ·rw [h0];rfl
   ·have h1:f.num.sign=1:=Int.sign_eq_one_of_pos (by omega)
    rw [h1]
    rw [decide_eq_true (by omega:-f.num<0)]
    rfl
  rw [← hz] at HSg
  obtain ⟨W,hW⟩:∃ W,W=(w.alloc (.cells #[.bool false,.int .u64 x,.int .u64 y,.pointer p] 27)).alloc (.cells #[.bool false,.int .u64 0,.int .u64 0,.pointer none] 27):=⟨_,rfl⟩
  have hB:But [] w W:=by rw [hW];exact ((But.refl [] w).alloc _).alloc _
  have c0:W.cell? ⟨w.heap.size,0,none⟩=some (.bool false):=by rw [hW];simp
  have c1:W.cell? ⟨w.heap.size,1,none⟩=some (.int .u64 x):=by rw [hW];simp
  have c2:W.cell? ⟨w.heap.size,2,none⟩=some (.int .u64 y):=by rw [hW];simp
  have c3:W.cell? ⟨w.heap.size,3,none⟩=some (.pointer p):=by rw [hW];simp
  have d0:W.cell? ⟨w.heap.size+1,0,none⟩=some (.bool false):=by rw [hW];simp
  have d1:W.cell? ⟨w.heap.size+1,1,none⟩=some (.int .u64 0):=by rw [hW];simp
  have d2:W.cell? ⟨w.heap.size+1,2,none⟩=some (.int .u64 0):=by rw [hW];simp
  have d3:W.cell? ⟨w.heap.size+1,3,none⟩=some (.pointer none):=by rw [hW];simp
  have fz:∀ b j,w.heap.size≤b→W.frozen? ⟨b,j,none⟩=false:=by
   intro b j hb
   rw [hW]
   rcases Nat.lt_or_ge b (w.heap.size+2) with h1 | h1
   ·have:b=w.heap.size∨b=w.heap.size+1:=by omega
    rcases this with rfl | rfl <;> simp
   ·simp [World.frozen?,Array.getElem?_eq_none (show ((w.alloc (.cells #[.bool false,.int .u64 x,.int .u64 y,.pointer p] 27)).alloc (.cells #[.bool false,.int .u64 0,.int .u64 0,.pointer none] 27)).heap.size≤b by simp;omega)]
  have HW:=hide hW
  have HS2:=hide (unhide HSg W ((unhide HF).but hB))
  have HR:=hide hr
  have HB:=hide hB
  clear hW hs hn hr hz HSg HF hB
  go_enter Tryz.func65,Tryz.ntmps65
  go_wp2_with fail
  rw [← unhide HW]
  refine (unhide HS2).mono ?_
  rintro e w1 ⟨rfl,hb1⟩
  have k0:=hb1.cell_some c0 (by simp)
  have k1:=hb1.cell_some c1 (by simp)
  have k2:=hb1.cell_some c2 (by simp)
  have k3:=hb1.cell_some c3 (by simp)
  have l0:=hb1.cell_some d0 (by simp)
  have l1:=hb1.cell_some d1 (by simp)
  have l2:=hb1.cell_some d2 (by simp)
  have l3:=hb1.cell_some d3 (by simp)
  have hg1:w.heap.size<W.heap.size:=lt_of_cell c0
  have hg2:w.heap.size+1<W.heap.size:=lt_of_cell d0
  have f1:∀ j,w1.frozen? ⟨w.heap.size,j,none⟩=false:=fun j=>(hb1.frozen (p:=⟨w.heap.size,j,none⟩) hg1 (by simp)).trans (fz _ j (Nat.le_refl _))
  have f2:∀ j,w1.frozen? ⟨w.heap.size+1,j,none⟩=false:=fun j=>(hb1.frozen (p:=⟨w.heap.size+1,j,none⟩) hg2 (by simp)).trans (fz _ j (by omega))
  have HB1:Hid (But [] w w1):=(unhide HB).trans' hb1
  clear hb1 c0 c1 c2 c3 d0 d1 d2 d3 fz HW HS2 hg1 hg2
  obtain ⟨ga,hga⟩:∃ ga,ga=w.heap.size:=⟨_,rfl⟩
  obtain ⟨gb,hgb⟩:∃ gb,gb=w.heap.size+1:=⟨_,rfl⟩
  rw [← hga] at k0 k1 k2 k3 f1
  rw [← hgb] at l0 l1 l2 l3 f2
  rw [← hgb,← hga]
  have hab:ga≠gb:=by omega
  have ha:Hid (w.heap.size≤ga):=Nat.le_of_eq hga.symm
  have hb:Hid (w.heap.size≤gb):=by show _≤_;omega
  clear hga hgb
  go_wp2
  have hBf:=((((((unhide HB1).setCell (p:=⟨ga,0,none⟩) (.inr (unhide ha)) (.bool r)).setCell (p:=⟨gb,0,none⟩) (.inr (unhide hb)) (.bool r)).setCell (p:=⟨gb,1,none⟩) (.inr (unhide hb)) (.int .u64 x)).setCell (p:=⟨gb,2,none⟩) (.inr (unhide hb)) (.int .u64 y)).setCell (p:=⟨gb,3,none⟩) (.inr (unhide hb)) (.pointer p))
  exact bodyPost_ret (v:=.agg #[.bool r,.int .u64 x,.int .u64 y,.pointer p]) (by simp [results,Tryz.results65,go_sem,l0,l1,l2,l3]) rfl ⟨_,rfl,unhide HH _ r (unhide HR) hBf,hBf⟩
end Go.Proofs.YtollloafckcogaaGreatDoor
