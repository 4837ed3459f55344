/- Two numbers are lessened; their greatest common divisor, as the Go text of package nat finds it. -/
import Derived.Deep.LoopGhost
import Derived.Test.YtloojmaamaambaaGreatDoorKBF1
import Derived.Test.YtloojmaamaambaaGreatDoorKBN20
import Derived.Test.YtloojmaamaambaaGreatDoorKBN36
namespace Go.Proofs.YtloojmaamaambaaGreatDoor
open Go.RowKit

theorem quo_less {lo : Nat} {W w' : World} {vx vy v2 : Value} {X Y : Nat} (hp : Pair lo W vx vy X Y) (hY : 0 < Y) (hle : Y ≤ X) (hlo : lo ≤ W.heap.size) (h2 : Sl .u64 w' v2 (wd 18446744073709551616 (X % Y))) (hb : But [] W w') (he : Heir W vx w' v2) : Less lo W X Y (.returned (.tuple #[vy,v2])) w' :=
 ⟨vy,v2,Y,X % Y,rfl,⟨hp.s2.but_nil hb,h2,hp.o2.but hp.s2 hb,he.own hp.o1 hlo hp.s1 hb,fun b off n c b' off' n' c' e1 e2 => by
  have hpos : 0 < (wd 18446744073709551616 Y).length:=by rw [Nat.pos_iff_ne_zero]; intro e; rw [wd_len_zero (by omega)] at e; omega
  have h4:=hp.s2.lt hpos b off n c e1
  rcases he _ _ _ _ e2 with ⟨h3,-⟩ | ⟨o0,n0,c0,e0,-,-⟩
  ·omega
  ·exact fun e => hp.ap _ _ _ _ _ _ _ _ e0 e1 e.symm⟩,Nat.le_of_lt (Nat.mod_lt _ hY),Nat.mod_lt _ hY,hle,gcd_mod X Y,[],by simp,hb⟩
theorem Less.pre {lo : Nat} {w W : World} {X Y : Nat} {e : Ending} {w' : World} (h : Less lo W X Y e w') (hb : But [] w W) : Less lo w X Y e w':=by
 obtain ⟨v1,v2,X',Y',h1,h2,h3,h4,h5,h6,l,h7,h8⟩:=h
 exact ⟨v1,v2,X',Y',h1,h2,h3,h4,h5,h6,l,h7,(But.of_nil hb).trans h8 (fun x hx => .inl hx)⟩

set_option maxHeartbeats 4000000 in
set_option maxRecDepth 100000 in
theorem lessened_any (lo : Nat) (vx vy : Value) (X Y : Nat) (w : World) (hp : Pair lo w vx vy X Y) (h2 : 2 ≤ (wd 18446744073709551616 Y).length) (hle : Y ≤ X) (hl : (wd 18446744073709551616 X).length ≤ 1000000) (hlo : lo ≤ w.heap.size) :
  Calls Tryz.prog 132 #[vx,vy] w fun e w' => Less lo w X Y e w':=by
 have hlen:=wd_len_mono hle
 have hY : 0 < Y:=by
  rcases Nat.eq_zero_or_pos Y with h | h
  ·subst h; rw [wd_zero] at h2; simp at h2
  ·exact h
 have HQ:=hide (fun (W : World) (h : Pair lo W vx vy X Y) => natQuoRem_any vx vy X Y W h.s1 h.s2 hY (by omega) (by omega) (Short.of X Y hl))
 have HT:=hide (fun (W : World) (h : Pair lo W vx vy X Y) xx xy yx yy back => taken_any lo vx vy X Y xx xy yx yy back W h h2 hle (by omega))
 have HS:=hide (fun (h : (wd 18446744073709551616 X).length < (wd 18446744073709551616 Y).length + 2) => stepsOf_any vx vy X Y w hp.s1 hp.s2 h2 h hle (by omega))
 have HP:=hide hp
 obtain ⟨a1,c1,rfl,-,-⟩:=hp.s1
 obtain ⟨a2,c2,rfl,-,-⟩:=hp.s2
 clear hp
 have HLO:=hide hlo
 clear hlo
 generalize (wd 18446744073709551616 X).length = nx at *
 generalize (wd 18446744073709551616 Y).length = ny at *
 by_cases hn : nx < ny + 2
 ·go_enter Tryz.func132,Tryz.ntmps132
  go_wp2_with fail
  refine (unhide HS hn).mono ?_
  rintro e w1 ⟨xx,xy,yx,yy,back,rfl,hxx,hxy,hyx,hyy,hok,hb1⟩
  have HOK:=hide hok
  have HB1:=hide hb1
  clear hok hb1 HS
  have BW : Hid (But [] w (w1.alloc (.cells #[.int .u64 (xx : Int),.int .u64 (xy : Int),.int .u64 (yx : Int),.int .u64 (yy : Int),.bool back] 216))):=(unhide HB1).alloc _
  by_cases h0 : xy = 0
  ·subst h0
   go_wp2_with fail
   refine (unhide HQ _ ((unhide HP).but (unhide BW))).mono ?_
   rintro e w2 ⟨v1,v2,rfl,-,hv2,hb2,ho2⟩
   have R:=hide ((quo_less ((unhide HP).but (unhide BW)) hY hle (Nat.le_trans (unhide HLO) (unhide BW).size) hv2 hb2 ho2).pre (unhide BW))
   clear hv2 hb2 ho2
   go_wp2
   go_ret2
   exact unhide R
  ·have hz : ((xy : Int) != 0) = true:=by simp; exact h0
   go_wp2_with fail
   refine (unhide HT _ ((unhide HP).but (unhide BW)) xx xy yx yy back hxx hxy hyx hyy (unhide HOK) h0).mono ?_
   intro e w2 hless
   obtain ⟨v1,v2,X',Y',rfl,hrest⟩:=hless
   have R:=hide ((show Less lo _ X Y (.returned (.tuple #[v1,v2])) w2 from ⟨v1,v2,X',Y',rfl,hrest⟩).pre (unhide BW))
   clear hrest
   go_wp2
   go_ret2
   exact unhide R
 ·go_enter Tryz.func132,Tryz.ntmps132
  go_wp2_with fail
  refine (unhide HQ _ (unhide HP)).mono ?_
  rintro e w2 ⟨v1,v2,rfl,-,hv2,hb2,ho2⟩
  have R:=hide (quo_less (unhide HP) hY hle (unhide HLO) hv2 hb2 ho2)
  clear hv2 hb2 ho2
  go_wp2
  go_ret2
  exact unhide R
end Go.Proofs.YtloojmaamaambaaGreatDoor

namespace Go.Proofs.YtloojmaamaambaaGreatDoor
open Go.RowKit

/-- what holds of the two numbers ahead of a round -/
def GcdInv (w : World) (X Y : Nat) (Y' : Nat) (vx vy : Value) (wr : World) : Prop:=∃ X',Sl .u64 wr vx (wd 18446744073709551616 X')∧Sl .u64 wr vy (wd 18446744073709551616 Y')∧Y' ≤ X'∧X' ≤ X∧Nat.gcd X' Y' = Nat.gcd X Y∧But [] w wr∧(2 ≤ (wd 18446744073709551616 Y').length→Pair w.heap.size wr vx vy X' Y')

set_option maxHeartbeats 8000000 in
set_option maxRecDepth 100000 in
theorem natGcd_long (vx vy : Value) (X Y : Nat) (w : World) (hx : Sl .u64 w vx (wd 18446744073709551616 X)) (hy : Sl .u64 w vy (wd 18446744073709551616 Y)) (hle : Y < X) (h1 : 1 < Y) (hl : (wd 18446744073709551616 X).length ≤ 1000000) (u v : Value) (r : Int) (hcmp : Hid (Calls Tryz.prog 130 #[u,v] w fun e w' => e = .returned (.int .i64 r)∧∃ q,w' = w.drewN q)) (huv : (u = vx∧v = vy∧r = 1) ∨ (u = vy∧v = vx∧r = -1)) :
  Calls Tryz.prog 68 #[u,v] w fun e w' => ∃ v',e = .returned v'∧Sl .u64 w' v' (wd 18446744073709551616 (Nat.gcd X Y))∧But [] w w':=by
 have hlen:=wd_len_mono (Nat.le_of_lt hle)
 have hYl : 0 < (wd 18446744073709551616 Y).length:=by rw [Nat.pos_iff_ne_zero]; intro e; rw [wd_len_zero (by omega)] at e; omega
 have HO:=hide (fun W (h : Sl .u64 W vy (wd 18446744073709551616 Y)) => natOne_any vy Y W h (by omega) false (by show false = _; simp; omega))
 rcases hx.open with ⟨e,-⟩ | ⟨-,b1,o1,c1,rfl,hc1,-,-⟩
 ·rw [e,List.length_nil] at hlen; omega
 rcases hy.open with ⟨e,-⟩ | ⟨-,b2,o2,c2,rfl,hc2,-,-⟩
 ·rw [e] at hYl; simp at hYl
 have HC1:=hide (fun W (h : Sl .u64 W (.slice (some ⟨b1,o1,none⟩) (wd 18446744073709551616 X).length c1) (wd 18446744073709551616 X)) => clone_any b1 o1 c1 (wd 18446744073709551616 X) W h (by omega) (by omega))
 have HC2:=hide (fun W (h : Sl .u64 W (.slice (some ⟨b2,o2,none⟩) (wd 18446744073709551616 Y).length c2) (wd 18446744073709551616 Y)) => clone_any b2 o2 c2 (wd 18446744073709551616 Y) W h (by omega) (by omega))
 have HX:=hide hx
 have HY:=hide hy
 clear hx hy
 generalize hnx : (wd 18446744073709551616 X).length = nx at *
 generalize hny : (wd 18446744073709551616 Y).length = ny at *
 have NX:=hide hnx
 have NY:=hide hny
 clear hnx hny
 have n0 : ((ny : Int) == 0) = false:=beq_eq_false_iff_ne.2 (by omega)
 by_cases h2 : 2 ≤ ny
 ·rcases huv with ⟨rfl,rfl,rfl⟩ | ⟨rfl,rfl,rfl⟩
  all_goals
   go_enter Tryz.func68,Tryz.ntmps68
   go_wp2_with fail
   refine (unhide hcmp).mono ?_
   rintro e w1 ⟨rfl,q,rfl⟩
   go_wp2_with fail
   refine (unhide HO _ (by exact unhide HY)).mono ?_
   rintro e w1 ⟨rfl,hw⟩
   obtain rfl:=hw.symm
   clear hw
   go_wp2_with fail
   refine (unhide HC1 _ (by exact unhide HX)).mono ?_
   rintro e w2 ⟨v1,rfl,hv1,hb1,ho1,g1,d1,rfl⟩
   have B1 : Hid (But [] w w2):=((But.refl [] _).drewN q).trans' hb1
   have P1:=hide (And.intro hv1 ho1)
   clear hv1 hb1 ho1
   go_wp2_with fail
   refine (unhide HC2 _ ((unhide HY).but_nil (unhide B1))).mono ?_
   rintro e w3 ⟨v2,rfl,hv2,hb2,ho2,g2,d2,rfl⟩
   have hap : g1 < w2.heap.size:=(unhide P1).1.lt (by rw [unhide NX]; omega) g1 0 _ _ rfl
   have hap2 : w2.heap.size ≤ g2:=(ho2 _ _ _ _ rfl).1
   have A0 : Hid (GcdInv w X Y Y (.slice (some ⟨g1,0,none⟩) nx d1) (.slice (some ⟨g2,0,none⟩) ny d2) w3) :=
    ⟨X,(unhide P1).1.but_nil hb2,hv2,Nat.le_of_lt hle,Nat.le_refl _,rfl,(unhide B1).trans' hb2,fun _ => ⟨(unhide P1).1.but_nil hb2,hv2,(unhide P1).2.but (unhide P1).1 hb2,ho2.mono (unhide B1).size,fun b off n c b' off' n' c' e1 e2 => by
     simp only [Value.slice.injEq,Option.some.injEq,Addr.mk.injEq] at e1 e2
     obtain ⟨⟨rfl,-⟩,-⟩:=e1
     obtain ⟨⟨rfl,-⟩,-⟩:=e2
     omega⟩⟩
   clear hv2 hb2 ho2 P1 B1 HC1 HC2 hap hap2
   go_wp2_with fail
   go_loopg [0,1] Y (fun k p1 p2 wr => Hid (GcdInv w X Y k p1 p2 wr))
   case atStart => exact A0
   case round =>
    clear A0
    obtain ⟨X',hs1,hs2,hYX,hXX,hg,hB,hP⟩:=unhide hrel
    have hl1:=wd_len_mono hXX
    have hl2:=wd_len_mono hYX
    have HI:=hide (And.intro hs1 (And.intro hs2 (And.intro hYX (And.intro hXX (And.intro hg (And.intro hB hP))))))
    rw [unhide NX] at hl1
    by_cases hk2 : 2 ≤ (wd 18446744073709551616 gk).length
    ·have HL:=hide (lessened_any w.heap.size _ _ X' gk wr (hP hk2) hk2 hYX (by omega) hB.size)
     obtain ⟨a1,d1,rfl,-,-⟩:=hs1
     obtain ⟨a2,d2,rfl,-,-⟩:=hs2
     clear hrel hg hB hP
     generalize (wd 18446744073709551616 X').length = m1 at *
     generalize (wd 18446744073709551616 gk).length = m2 at *
     go_wp2_with fail
     refine (unhide HL).mono ?_
     rintro e w5 ⟨v1,v2,X2,Y2,rfl,hp2,hle2,hlt2,hX2,hg2,l,hlo,hbl⟩
     have R : Hid (GcdInv w X Y Y2 v1 v2 w5):=⟨X2,hp2.s1,hp2.s2,hle2,by omega,by rw [hg2]; exact (unhide HI).2.2.2.2.1,(unhide HI).2.2.2.2.2.1.trans hbl (fun x hx => .inr (hlo x hx)),fun _ => hp2⟩
     clear hp2 hg2 hlo hbl
     go_wp2
     go_roundg Y2
     case measure => exact hlt2
     case rel => exact R
    ·rcases Nat.eq_zero_or_pos gk with hz | hz
     ·subst hz
      rw [Nat.gcd_zero_right] at hg
      rw [wd_zero] at hs2
      obtain ⟨a1,d1,rfl,-,-⟩:=id hs1
      obtain ⟨a2,d2,rfl,-,-⟩:=hs2
      have R:=hide (And.intro hs1 hB)
      have HG:=hide hg
      clear hrel hg hB hP hs1 hk2 HI hl2
      generalize (wd 18446744073709551616 X').length = m1 at *
      go_wp2
      go_ret
      exact ⟨_,rfl,by rw [← unhide HG]; exact (unhide R).1,(unhide R).2⟩
     ·have hkB : gk < 18446744073709551616:=by
       rcases Nat.lt_or_ge gk 18446744073709551616 with h | h
       ·exact h
       ·exact absurd (wd_len_two gk h) hk2
      rcases word_open hs2 hkB with ⟨rfl,-⟩ | ⟨-,b,off,c,rfl,hcell⟩
      ·omega
      have HBY:=hide (byWord_any _ X' gk wr hs1 (by omega) hz hkB)
      have hmB : X' % gk < 18446744073709551616:=Nat.lt_trans (Nat.mod_lt _ hz) hkB
      have GW:=hide (fun W => gcdWords_any gk (X' % gk) W hkB hmB)
      have hgB : Nat.gcd gk (X' % gk) < 18446744073709551616:=Nat.lt_of_le_of_lt (Nat.gcd_le_left _ hz) hkB
      have HG : Hid (Nat.gcd gk (X' % gk) = Nat.gcd X Y):=by show _ = _; rw [gcd_mod]; exact hg
      have HOF:=hide (fun W => natOf_any (Nat.gcd gk (X' % gk)) hgB W)
      obtain ⟨a1,d1,rfl,-,-⟩:=id hs1
      have HB:=hide hB
      clear hrel hg hB hP hs1 hs2 HI hl2
      generalize (wd 18446744073709551616 X').length = m1 at *
      go_wp2_with fail
      refine (unhide HBY).mono ?_
      rintro e w5 ⟨v5,rfl,-,hb5⟩
      have hc5:=hb5.cell_some hcell (by simp)
      have HB5:=hide hb5
      clear hb5 hcell
      go_wp2_with fail
      refine (unhide GW _).mono ?_
      rintro e w6 ⟨rfl,q6,rfl⟩
      go_wp2_with fail
      refine (unhide HOF _).mono ?_
      rintro e w7 ⟨v7,rfl,hv7,hb7,-⟩
      rw [unhide HG] at hv7
      have R:=hide (And.intro hv7 ((unhide HB).trans' ((unhide HB5).trans' (((But.refl [] _).drewN q6).trans' hb7))))
      clear hv7 hb7
      go_wp2
      go_ret
      exact ⟨v7,rfl,(unhide R).1,(unhide R).2⟩
 ·rcases huv with ⟨rfl,rfl,rfl⟩ | ⟨rfl,rfl,rfl⟩
  all_goals
   go_enter Tryz.func68,Tryz.ntmps68
   go_wp2_with fail
   refine (unhide hcmp).mono ?_
   rintro e w1 ⟨rfl,q,rfl⟩
   go_wp2_with fail
   refine (unhide HO _ (by exact unhide HY)).mono ?_
   rintro e w1 ⟨rfl,hw⟩
   obtain rfl:=hw.symm
   clear hw
   have A0 : Hid (GcdInv w X Y Y (.slice (some ⟨b1,o1,none⟩) nx c1) (.slice (some ⟨b2,o2,none⟩) ny c2) (w.drewN q)) :=
    ⟨X,unhide HX,unhide HY,Nat.le_of_lt hle,Nat.le_refl _,rfl,(But.refl [] _).drewN q,fun h => by rw [unhide NY] at h; omega⟩
   go_wp2_with fail
   go_loopg [0,1] Y (fun k p1 p2 wr => Hid (GcdInv w X Y k p1 p2 wr))
   case atStart => exact A0
   case round =>
    clear A0
    obtain ⟨X',hs1,hs2,hYX,hXX,hg,hB,hP⟩:=unhide hrel
    have hl1:=wd_len_mono hXX
    have hl2:=wd_len_mono hYX
    have HI:=hide (And.intro hs1 (And.intro hs2 (And.intro hYX (And.intro hXX (And.intro hg (And.intro hB hP))))))
    rw [unhide NX] at hl1
    by_cases hk2 : 2 ≤ (wd 18446744073709551616 gk).length
    ·have HL:=hide (lessened_any w.heap.size _ _ X' gk wr (hP hk2) hk2 hYX (by omega) hB.size)
     obtain ⟨a1,d1,rfl,-,-⟩:=hs1
     obtain ⟨a2,d2,rfl,-,-⟩:=hs2
     clear hrel hg hB hP
     generalize (wd 18446744073709551616 X').length = m1 at *
     generalize (wd 18446744073709551616 gk).length = m2 at *
     go_wp2_with fail
     refine (unhide HL).mono ?_
     rintro e w5 ⟨v1,v2,X2,Y2,rfl,hp2,hle2,hlt2,hX2,hg2,l,hlo,hbl⟩
     have R : Hid (GcdInv w X Y Y2 v1 v2 w5):=⟨X2,hp2.s1,hp2.s2,hle2,by omega,by rw [hg2]; exact (unhide HI).2.2.2.2.1,(unhide HI).2.2.2.2.2.1.trans hbl (fun x hx => .inr (hlo x hx)),fun _ => hp2⟩
     clear hp2 hg2 hlo hbl
     go_wp2
     go_roundg Y2
     case measure => exact hlt2
     case rel => exact R
    ·rcases Nat.eq_zero_or_pos gk with hz | hz
     ·subst hz
      rw [Nat.gcd_zero_right] at hg
      rw [wd_zero] at hs2
      obtain ⟨a1,d1,rfl,-,-⟩:=id hs1
      obtain ⟨a2,d2,rfl,-,-⟩:=hs2
      have R:=hide (And.intro hs1 hB)
      have HG:=hide hg
      clear hrel hg hB hP hs1 hk2 HI hl2
      generalize (wd 18446744073709551616 X').length = m1 at *
      go_wp2
      go_ret
      exact ⟨_,rfl,by rw [← unhide HG]; exact (unhide R).1,(unhide R).2⟩
     ·have hkB : gk < 18446744073709551616:=by
       rcases Nat.lt_or_ge gk 18446744073709551616 with h | h
       ·exact h
       ·exact absurd (wd_len_two gk h) hk2
      rcases word_open hs2 hkB with ⟨rfl,-⟩ | ⟨-,b,off,c,rfl,hcell⟩
      ·omega
      have HBY:=hide (byWord_any _ X' gk wr hs1 (by omega) hz hkB)
      have hmB : X' % gk < 18446744073709551616:=Nat.lt_trans (Nat.mod_lt _ hz) hkB
      have GW:=hide (fun W => gcdWords_any gk (X' % gk) W hkB hmB)
      have hgB : Nat.gcd gk (X' % gk) < 18446744073709551616:=Nat.lt_of_le_of_lt (Nat.gcd_le_left _ hz) hkB
      have HG : Hid (Nat.gcd gk (X' % gk) = Nat.gcd X Y):=by show _ = _; rw [gcd_mod]; exact hg
      have HOF:=hide (fun W => natOf_any (Nat.gcd gk (X' % gk)) hgB W)
      obtain ⟨a1,d1,rfl,-,-⟩:=id hs1
      have HB:=hide hB
      clear hrel hg hB hP hs1 hs2 HI hl2
      generalize (wd 18446744073709551616 X').length = m1 at *
      go_wp2_with fail
      refine (unhide HBY).mono ?_
      rintro e w5 ⟨v5,rfl,-,hb5⟩
      have hc5:=hb5.cell_some hcell (by simp)
      have HB5:=hide hb5
      clear hb5 hcell
      go_wp2_with fail
      refine (unhide GW _).mono ?_
      rintro e w6 ⟨rfl,q6,rfl⟩
      go_wp2_with fail
      refine (unhide HOF _).mono ?_
      rintro e w7 ⟨v7,rfl,hv7,hb7,-⟩
      rw [unhide HG] at hv7
      have R:=hide (And.intro hv7 ((unhide HB).trans' ((unhide HB5).trans' (((But.refl [] _).drewN q6).trans' hb7))))
      clear hv7 hb7
      go_wp2
      go_ret
      exact ⟨v7,rfl,(unhide R).1,(unhide R).2⟩

set_option maxHeartbeats 4000000 in
set_option maxRecDepth 100000 in
theorem natGcd_any (vx vy : Value) (X Y : Nat) (w : World) (hx : Sl .u64 w vx (wd 18446744073709551616 X)) (hy : Sl .u64 w vy (wd 18446744073709551616 Y)) (hlx : (wd 18446744073709551616 X).length ≤ 1000000) (hly : (wd 18446744073709551616 Y).length ≤ 1000000) :
  Calls Tryz.prog 68 #[vx,vy] w fun e w' => ∃ v',e = .returned v'∧Sl .u64 w' v' (wd 18446744073709551616 (Nat.gcd X Y))∧But [] w w':=by
 have hcmp:=natCmp_any vx vy X Y w hx hy (by omega) (by omega)
 have HX:=hide hx
 have HY:=hide hy
 rcases cmpN_cases X Y with ⟨hlt,hc⟩ | ⟨heq,hc⟩ | ⟨hgt,hc⟩
 ·rw [hc] at hcmp
  rcases Nat.lt_or_ge 1 X with h1 | h1
  ·have:=natGcd_long vy vx Y X w hy hx hlt h1 hly vx vy (-1) hcmp (.inr ⟨rfl,rfl,rfl⟩)
   rw [Nat.gcd_comm] at this
   exact this
  ·have HC:=hide hcmp
   have HO:=hide (fun W (h : Sl .u64 W vx (wd 18446744073709551616 X)) => natOne_any vx X W h (by omega) true)
   rcases Nat.eq_zero_or_pos X with h0 | h0
   ·subst h0
    rw [Nat.gcd_zero_left]
    rw [wd_zero] at hx
    obtain ⟨a1,c1,rfl,-,-⟩:=hx
    obtain ⟨a2,c2,rfl,-,-⟩:=hy
    clear hcmp hc HO
    generalize (wd 18446744073709551616 Y).length = ny at *
    go_enter Tryz.func68,Tryz.ntmps68
    go_wp2_with fail
    refine (unhide HC).mono ?_
    rintro e w1 ⟨rfl,q,rfl⟩
    go_wp2
    go_ret
    exact ⟨_,rfl,unhide HY,(But.refl _ _).drewN q⟩
   ·have hX1 : X = 1:=by omega
    subst hX1
    rw [Nat.gcd_one_left]
    have hl1 : (wd 18446744073709551616 1).length = 1:=by rw [wd_word 1 (by omega) (by omega)]; rfl
    have HO1:=hide (fun W h => unhide HO W h (by show true = _; rfl))
    obtain ⟨a1,c1,rfl,-,-⟩:=hx
    obtain ⟨a2,c2,rfl,-,-⟩:=hy
    clear hcmp hc HO
    rw [hl1] at *
    generalize (wd 18446744073709551616 Y).length = ny at *
    clear hl1
    go_enter Tryz.func68,Tryz.ntmps68
    go_wp2_with fail
    refine (unhide HC).mono ?_
    rintro e w1 ⟨rfl,q,rfl⟩
    go_wp2_with fail
    refine (unhide HO1 _ (by exact unhide HX)).mono ?_
    rintro e w1 ⟨rfl,hw⟩
    obtain rfl:=hw.symm
    clear hw
    go_wp2
    go_ret
    exact ⟨_,rfl,unhide HX,(But.refl _ _).drewN q⟩
 ·rw [hc] at hcmp
  have HC:=hide hcmp
  subst heq
  rw [Nat.gcd_self]
  obtain ⟨a1,c1,rfl,-,-⟩:=hx
  obtain ⟨a2,c2,rfl,-,-⟩:=hy
  clear hcmp hc
  generalize (wd 18446744073709551616 X).length = nx at *
  go_enter Tryz.func68,Tryz.ntmps68
  go_wp2_with fail
  refine (unhide HC).mono ?_
  rintro e w1 ⟨rfl,q,rfl⟩
  go_wp2
  go_ret
  exact ⟨_,rfl,unhide HX,(But.refl _ _).drewN q⟩
 ·rw [hc] at hcmp
  rcases Nat.lt_or_ge 1 Y with h1 | h1
  ·exact natGcd_long vx vy X Y w hx hy hgt h1 hlx vx vy 1 hcmp (.inl ⟨rfl,rfl,rfl⟩)
  ·have HC:=hide hcmp
   have HO:=hide (fun W (h : Sl .u64 W vy (wd 18446744073709551616 Y)) => natOne_any vy Y W h (by omega) true)
   rcases Nat.eq_zero_or_pos Y with h0 | h0
   ·subst h0
    rw [Nat.gcd_zero_right]
    rw [wd_zero] at hy
    obtain ⟨a1,c1,rfl,-,-⟩:=hx
    obtain ⟨a2,c2,rfl,-,-⟩:=hy
    clear hcmp hc HO
    generalize (wd 18446744073709551616 X).length = nx at *
    go_enter Tryz.func68,Tryz.ntmps68
    go_wp2_with fail
    refine (unhide HC).mono ?_
    rintro e w1 ⟨rfl,q,rfl⟩
    go_wp2
    go_ret
    exact ⟨_,rfl,unhide HX,(But.refl _ _).drewN q⟩
   ·have hX1 : Y = 1:=by omega
    subst hX1
    rw [Nat.gcd_one_right]
    have hl1 : (wd 18446744073709551616 1).length = 1:=by rw [wd_word 1 (by omega) (by omega)]; rfl
    have HO1:=hide (fun W h => unhide HO W h (by show true = _; rfl))
    obtain ⟨a1,c1,rfl,-,-⟩:=hx
    obtain ⟨a2,c2,rfl,-,-⟩:=hy
    clear hcmp hc HO
    rw [hl1] at *
    generalize (wd 18446744073709551616 X).length = nx at *
    clear hl1
    go_enter Tryz.func68,Tryz.ntmps68
    go_wp2_with fail
    refine (unhide HC).mono ?_
    rintro e w1 ⟨rfl,q,rfl⟩
    go_wp2_with fail
    refine (unhide HO1 _ (by exact unhide HY)).mono ?_
    rintro e w1 ⟨rfl,hw⟩
    obtain rfl:=hw.symm
    clear hw
    go_wp2
    go_ret
    exact ⟨_,rfl,unhide HY,(But.refl _ _).drewN q⟩
end Go.Proofs.YtloojmaamaambaaGreatDoor

namespace Go.Proofs.YtloojmaamaambaaGreatDoor
open Go.RowKit

set_option maxHeartbeats 2000000 in
set_option maxRecDepth 100000 in
theorem signedSum_any (s t : Bool) (v1 v2 : Value) (m n : Nat) (w : World) (h1 : Sl .u64 w v1 (wd 18446744073709551616 m)) (h2 : Sl .u64 w v2 (wd 18446744073709551616 n)) (hl1 : (wd 18446744073709551616 m).length < 1073741824) (hl2 : (wd 18446744073709551616 n).length < 1073741824) :
  Calls Tryz.prog 70 #[.bool s,v1,.bool t,v2] w fun e w' => ∃ (r : Bool) (v : Value) (M : Nat),e = .returned (.tuple #[.bool r,v])∧Sl .u64 w' v (wd 18446744073709551616 M)∧sgn s m + sgn t n = sgn r M∧M ≤ m + n∧But [] w w':=by
 have HA:=hide (natAdd_any v1 v2 m n w h1 h2 hl1 hl2)
 have HC:=hide (natCmp_any v1 v2 m n w h1 h2 (by omega) (by omega))
 have H1:=hide h1
 have H2:=hide h2
 have HS1:=hide (fun (W : World) (a : Sl .u64 W v1 (wd 18446744073709551616 m)) (b : Sl .u64 W v2 (wd 18446744073709551616 n)) (h : n ≤ m) => natSub_any v1 v2 m n W a b hl1 h)
 have HS2:=hide (fun (W : World) (a : Sl .u64 W v1 (wd 18446744073709551616 m)) (b : Sl .u64 W v2 (wd 18446744073709551616 n)) (h : m ≤ n) => natSub_any v2 v1 n m W b a hl2 h)
 obtain ⟨a1,c1,rfl,-,-⟩:=h1
 obtain ⟨a2,c2,rfl,-,-⟩:=h2
 generalize (wd 18446744073709551616 m).length = l1 at *
 generalize (wd 18446744073709551616 n).length = l2 at *
 by_cases hst : s = t
 ·subst hst
  have hb : (s == s) = true:=by simp
  have HE : Hid (sgn s m + sgn s n = sgn s (m + n)):=by show _ = _; cases s <;> simp [sgn] <;> omega
  go_enter Tryz.func70,Tryz.ntmps70
  go_wp2_with fail
  refine (unhide HA).mono ?_
  rintro e w1 ⟨v,rfl,hv,hb1⟩
  have R:=hide (And.intro hv hb1)
  clear hv hb1
  go_wp2
  go_ret2
  exact ⟨s,v,m + n,rfl,(unhide R).1,unhide HE,Nat.le_refl _,(unhide R).2⟩
 ·have hb : (s == t) = false:=by simp [hst]
  have ht : t = !s:=by cases s <;> cases t <;> simp_all
  rcases Nat.lt_or_ge m n with hlt | hge
  ·rw [cmpN_lt hlt] at HC
   have HE : Hid (sgn s m + sgn t n = sgn t (n - m)):=by
    show _ = _
    rw [ht]
    cases s <;> simp [sgn] <;> omega
   clear ht
   go_enter Tryz.func70,Tryz.ntmps70
   go_wp2_with fail
   refine (unhide HC).mono ?_
   rintro e w1 ⟨rfl,q,rfl⟩
   go_wp2_with fail
   refine (unhide HS2 _ (by exact unhide H1) (by exact unhide H2) (Nat.le_of_lt hlt)).mono ?_
   rintro e w2 ⟨v,rfl,hv,hb1⟩
   have R:=hide (And.intro hv (((But.refl [] _).drewN q).trans' hb1))
   clear hv hb1
   go_wp2
   go_ret2
   exact ⟨t,v,n - m,rfl,(unhide R).1,unhide HE,by omega,(unhide R).2⟩
  ·have hc0:=cmpN_ge hge
   have HE : Hid (sgn s m + sgn t n = sgn s (m - n)):=by
    show _ = _
    rw [ht]
    cases s <;> simp [sgn] <;> omega
   clear ht
   generalize cmpN m n = r at *
   have hr : decide (0 ≤ r) = true:=by simp; omega
   go_enter Tryz.func70,Tryz.ntmps70
   go_wp2_with fail
   refine (unhide HC).mono ?_
   rintro e w1 ⟨rfl,q,rfl⟩
   go_wp2_with fail
   refine (unhide HS1 _ (by exact unhide H1) (by exact unhide H2) hge).mono ?_
   rintro e w2 ⟨v,rfl,hv,hb1⟩
   have R:=hide (And.intro hv (((But.refl [] _).drewN q).trans' hb1))
   clear hv hb1
   go_wp2
   go_ret2
   exact ⟨s,v,m - n,rfl,(unhide R).1,unhide HE,by omega,(unhide R).2⟩

set_option maxHeartbeats 2000000 in
set_option maxRecDepth 100000 in
theorem fracSign_any (v : Value) (f : Rat) (w : World) (hf : FracAt w v f) :
  Calls Tryz.prog 18 #[v] w fun e w' => e = .returned (.int .i64 f.num.sign)∧But [] w w':=by
 rcases hf with ⟨hp,hq,rfl⟩ | ⟨hbig,b,v1,v2,rfl,-,-,-,-⟩
 ·by_cases hn : f.num < 0
  ·have e : f.num.sign = -1:=Int.sign_eq_neg_one_of_neg hn
   rw [e]
   have hd : decide (f.num < 0) = true:=decide_eq_true hn
   rw [hd]
   generalize f.num.natAbs = p at *
   generalize f.den = q at *
   clear hn hd e
   go_enter Tryz.func18,Tryz.ntmps18
   go_wp2
   go_ret
   exact ⟨rfl,(But.refl _ _).alloc _⟩
  ·have hd : decide (f.num < 0) = false:=decide_eq_false hn
   rw [hd]
   rcases Nat.eq_zero_or_pos f.num.natAbs with h0 | h0
   ·have e : f.num.sign = 0:=by rw [Int.sign_eq_zero_iff_zero]; omega
    rw [e,h0]
    generalize f.den = q at *
    clear hn hd e h0 hp
    go_enter Tryz.func18,Tryz.ntmps18
    go_wp2
    go_ret
    exact ⟨rfl,(But.refl _ _).alloc _⟩
   ·have e : f.num.sign = 1:=Int.sign_eq_one_of_pos (by omega)
    rw [e]
    generalize f.num.natAbs = p at *
    generalize f.den = q at *
    have n0 : ((p : Int) == 0) = false:=beq_eq_false_iff_ne.2 (by omega)
    clear hn hd e
    go_enter Tryz.func18,Tryz.ntmps18
    go_wp2
    go_ret
    exact ⟨rfl,(But.refl _ _).alloc _⟩
 ·have hn0 : f.num ≠ 0:=by
   intro e0
   have e1:=f.reduced
   rw [e0,Int.natAbs_zero,Nat.coprime_zero_left] at e1
   rw [e0] at hbig
   simp at hbig
   omega
  by_cases hn : f.num < 0
  ·have e : f.num.sign = -1:=Int.sign_eq_neg_one_of_neg hn
   have hd : decide (f.num < 0) = true:=decide_eq_true hn
   rw [e,hd]
   clear hn hd e hbig hn0
   go_enter Tryz.func18,Tryz.ntmps18
   go_wp2
   go_ret
   exact ⟨rfl,(But.refl _ _).alloc _⟩
  ·have e : f.num.sign = 1:=Int.sign_eq_one_of_pos (by omega)
   have hd : decide (f.num < 0) = false:=decide_eq_false hn
   rw [e,hd]
   clear hn hd e hbig hn0
   go_enter Tryz.func18,Tryz.ntmps18
   go_wp2
   go_ret
   exact ⟨rfl,(But.refl _ _).alloc _⟩

theorem neg_at {w : World} {f : Rat} (r : Bool) (hr : r = decide (-f.num < 0)) (v : Value) (h : (f.num.natAbs < 18446744073709551616∧f.den < 18446744073709551616∧v = .agg #[.bool r,.int .u64 (f.num.natAbs : Int),.int .u64 ((f.den : Int) - 1),.pointer none]) ∨ ((18446744073709551616 ≤ f.num.natAbs ∨ 18446744073709551616 ≤ f.den)∧∃ b v1 v2,v = .agg #[.bool r,.int .u64 0,.int .u64 0,.pointer (some ⟨b,0,none⟩)]∧w.cell? ⟨b,0,none⟩ = some v1∧w.cell? ⟨b,1,none⟩ = some v2∧Sl .u64 w v1 (wd 18446744073709551616 f.num.natAbs)∧Sl .u64 w v2 (wd 18446744073709551616 f.den))) : FracAt w v (-f):=by
 unfold FracAt
 rw [Rat.neg_num,Rat.neg_den,Int.natAbs_neg,← hr]
 exact h

set_option maxHeartbeats 4000000 in
set_option maxRecDepth 100000 in
theorem fracNeg_any (v : Value) (f : Rat) (w : World) (hf : FracAt w v f) :
  Calls Tryz.prog 118 #[v] w fun e w' => ∃ v',e = .returned v'∧FracAt w' v' (-f)∧But [] w w':=by
 have HSg:=hide (fun W (h : FracAt W v f) => fracSign_any v f W h)
 have HF:=hide hf
 obtain ⟨s,x,y,p,rfl,hs,hsh⟩ : ∃ s x y p,v = .agg #[.bool s,.int .u64 x,.int .u64 y,.pointer p]∧s = decide (f.num < 0)∧(∀ (W : World) (r : Bool),r = decide (-f.num < 0)→But [] w W→FracAt W (.agg #[.bool r,.int .u64 x,.int .u64 y,.pointer p]) (-f)):=by
  rcases hf with ⟨hp,hq,rfl⟩ | ⟨hbig,b,v1,v2,rfl,k0,k1,k2,k3⟩
  ·exact ⟨_,_,_,_,rfl,rfl,fun W r hr _ => neg_at r hr _ (.inl ⟨hp,hq,rfl⟩)⟩
  ·exact ⟨_,_,_,_,rfl,rfl,fun W r hr hb => neg_at r hr _ (.inr ⟨hbig,b,v1,v2,rfl,hb.cell_some k0 (by simp),hb.cell_some k1 (by simp),k2.but_nil hb,k3.but_nil hb⟩)⟩
 have HH:=hide hsh
 clear hsh hf
 by_cases hn : f.num < 0
 ·have e : s = true:=by rw [hs]; exact decide_eq_true hn
  subst e
  have hr : Hid (false = decide (-f.num < 0)):=by show _ = _; rw [decide_eq_false]; omega
  clear hs hn HSg HF
  go_enter Tryz.func118,Tryz.ntmps118
  go_wp2
  have hB:=((But.refl [] w).alloc (.cells #[.bool false,.int .u64 x,.int .u64 y,.pointer p] 29)).alloc (.cells #[.bool false,.int .u64 x,.int .u64 y,.pointer p] 29)
  exact bodyPost_ret (v:=.agg #[.bool false,.int .u64 x,.int .u64 y,.pointer p]) (by simp [results,Tryz.results118,go_sem]) rfl ⟨_,rfl,unhide HH _ false (unhide hr) hB,hB⟩
 ·have e : s = false:=by rw [hs]; exact decide_eq_false hn
  subst e
  obtain ⟨r,hr⟩ : ∃ r,r = decide (-f.num < 0):=⟨_,rfl⟩
  obtain ⟨z,hz⟩ : ∃ z,z = f.num.sign:=⟨_,rfl⟩
  have hzr : (z != 0) = r:=by
   rw [hr,hz]
   by_cases h0 : f.num = 0
   ·rw [h0]; rfl
   ·have h1 : f.num.sign = 1:=Int.sign_eq_one_of_pos (by omega)
    rw [h1]
    rw [decide_eq_true (by omega : -f.num < 0)]
    rfl
  rw [← hz] at HSg
  obtain ⟨W,hW⟩ : ∃ W,W = (w.alloc (.cells #[.bool false,.int .u64 x,.int .u64 y,.pointer p] 29)).alloc (.cells #[.bool false,.int .u64 0,.int .u64 0,.pointer none] 29):=⟨_,rfl⟩
  have hB : But [] w W:=by rw [hW]; exact ((But.refl [] w).alloc _).alloc _
  have c0 : W.cell? ⟨w.heap.size,0,none⟩ = some (.bool false):=by rw [hW]; simp
  have c1 : W.cell? ⟨w.heap.size,1,none⟩ = some (.int .u64 x):=by rw [hW]; simp
  have c2 : W.cell? ⟨w.heap.size,2,none⟩ = some (.int .u64 y):=by rw [hW]; simp
  have c3 : W.cell? ⟨w.heap.size,3,none⟩ = some (.pointer p):=by rw [hW]; simp
  have d0 : W.cell? ⟨w.heap.size + 1,0,none⟩ = some (.bool false):=by rw [hW]; simp
  have d1 : W.cell? ⟨w.heap.size + 1,1,none⟩ = some (.int .u64 0):=by rw [hW]; simp
  have d2 : W.cell? ⟨w.heap.size + 1,2,none⟩ = some (.int .u64 0):=by rw [hW]; simp
  have d3 : W.cell? ⟨w.heap.size + 1,3,none⟩ = some (.pointer none):=by rw [hW]; simp
  have fz : ∀ b j,w.heap.size ≤ b→W.frozen? ⟨b,j,none⟩ = false:=by
   intro b j hb
   rw [hW]
   rcases Nat.lt_or_ge b (w.heap.size + 2) with h1 | h1
   ·have : b = w.heap.size ∨ b = w.heap.size + 1:=by omega
    rcases this with rfl | rfl <;> simp
   ·simp [World.frozen?,Array.getElem?_eq_none (show ((w.alloc (.cells #[.bool false,.int .u64 x,.int .u64 y,.pointer p] 29)).alloc (.cells #[.bool false,.int .u64 0,.int .u64 0,.pointer none] 29)).heap.size ≤ b by simp; omega)]
  have HW:=hide hW
  have HS2:=hide (unhide HSg W ((unhide HF).but hB))
  have HR:=hide hr
  have HB:=hide hB
  clear hW hs hn hr hz HSg HF hB
  go_enter Tryz.func118,Tryz.ntmps118
  go_wp2_with fail
  rw [← unhide HW]
  refine (unhide HS2).mono ?_
  rintro e w1 ⟨rfl,hb1⟩
  have k0:=hb1.cell_some c0 (by simp)
  have k1:=hb1.cell_some c1 (by simp)
  have k2:=hb1.cell_some c2 (by simp)
  have k3:=hb1.cell_some c3 (by simp)
  have l0:=hb1.cell_some d0 (by simp)
  have l1:=hb1.cell_some d1 (by simp)
  have l2:=hb1.cell_some d2 (by simp)
  have l3:=hb1.cell_some d3 (by simp)
  have hg1 : w.heap.size < W.heap.size:=lt_of_cell c0
  have hg2 : w.heap.size + 1 < W.heap.size:=lt_of_cell d0
  have f1 : ∀ j,w1.frozen? ⟨w.heap.size,j,none⟩ = false:=fun j => (hb1.frozen (p:=⟨w.heap.size,j,none⟩) hg1 (by simp)).trans (fz _ j (Nat.le_refl _))
  have f2 : ∀ j,w1.frozen? ⟨w.heap.size + 1,j,none⟩ = false:=fun j => (hb1.frozen (p:=⟨w.heap.size + 1,j,none⟩) hg2 (by simp)).trans (fz _ j (by omega))
  have HB1 : Hid (But [] w w1):=(unhide HB).trans' hb1
  clear hb1 c0 c1 c2 c3 d0 d1 d2 d3 fz HW HS2 hg1 hg2
  obtain ⟨ga,hga⟩ : ∃ ga,ga = w.heap.size:=⟨_,rfl⟩
  obtain ⟨gb,hgb⟩ : ∃ gb,gb = w.heap.size + 1:=⟨_,rfl⟩
  rw [← hga] at k0 k1 k2 k3 f1
  rw [← hgb] at l0 l1 l2 l3 f2
  rw [← hgb,← hga]
  have hab : ga ≠ gb:=by omega
  have ha : Hid (w.heap.size ≤ ga):=Nat.le_of_eq hga.symm
  have hb : Hid (w.heap.size ≤ gb):=by show _ ≤ _; omega
  clear hga hgb
  go_wp2
  have hBf:=((((((unhide HB1).setCell (p:=⟨ga,0,none⟩) (.inr (unhide ha)) (.bool r)).setCell (p:=⟨gb,0,none⟩) (.inr (unhide hb)) (.bool r)).setCell (p:=⟨gb,1,none⟩) (.inr (unhide hb)) (.int .u64 x)).setCell (p:=⟨gb,2,none⟩) (.inr (unhide hb)) (.int .u64 y)).setCell (p:=⟨gb,3,none⟩) (.inr (unhide hb)) (.pointer p))
  exact bodyPost_ret (v:=.agg #[.bool r,.int .u64 x,.int .u64 y,.pointer p]) (by simp [results,Tryz.results118,go_sem,l0,l1,l2,l3]) rfl ⟨_,rfl,unhide HH _ r (unhide HR) hBf,hBf⟩
end Go.Proofs.YtloojmaamaambaaGreatDoor

namespace Go.Proofs.YtloojmaamaambaaGreatDoor
open Go.RowKit

set_option maxHeartbeats 1000000 in
theorem ofWords_gen (s : Bool) (p q : Nat) (r : Bool) (hr : Hid (r = (s && decide (p ≠ 0)))) (x : Int) (hx : IntKind.u64.wrap ((q : Int) - 1) = x) (w : World) :
  Calls Tryz.prog 117 #[.bool s,.int .u64 (p : Int),.int .u64 (q : Int)] w fun e w' => e = .returned (.agg #[.bool r,.int .u64 (p : Int),.int .u64 x,.pointer none])∧But [] w w':=by
 by_cases h0 : p = 0
 ·subst h0
  have er : Hid (r = false):=by show _ = _; rw [unhide hr]; simp
  clear hr
  cases s
  all_goals
   go_enter Tryz.func117,Tryz.ntmps117
   go_wp2
   rw [unhide er]
   exact bodyPost_ret (v:=.agg #[.bool false,.int .u64 ((0 : Nat) : Int),.int .u64 x,.pointer none]) (by simp [results,Tryz.results117,go_sem]) rfl ⟨rfl,(But.refl _ _).alloc _⟩
 ·have e1 : ((p : Int) != 0) = true:=by simp; exact h0
  cases s
  ·have er : Hid (r = false):=by show _ = _; rw [unhide hr]; simp
   clear hr
   go_enter Tryz.func117,Tryz.ntmps117
   go_wp2
   rw [unhide er]
   exact bodyPost_ret (v:=.agg #[.bool false,.int .u64 (p : Int),.int .u64 x,.pointer none]) (by simp [results,Tryz.results117,go_sem]) rfl ⟨rfl,(But.refl _ _).alloc _⟩
  ·have er : Hid (r = true):=by show _ = _; rw [unhide hr]; simp [h0]
   clear hr
   go_enter Tryz.func117,Tryz.ntmps117
   go_wp2
   rw [unhide er]
   exact bodyPost_ret (v:=.agg #[.bool true,.int .u64 (p : Int),.int .u64 x,.pointer none]) (by simp [results,Tryz.results117,go_sem]) rfl ⟨rfl,(But.refl _ _).alloc _⟩

/-- three new blocks, one behind the other -/
theorem three_new (w W : World) (A B C : Array Value) (t : TypeId) (hW : W = ((w.alloc (.cells A t)).alloc (.cells B t)).alloc (.cells C t)) :
  (∀ j,W.cell? ⟨w.heap.size,j,none⟩ = A[j]?)∧(∀ j,W.cell? ⟨w.heap.size + 1,j,none⟩ = B[j]?)∧(∀ j,W.cell? ⟨w.heap.size + 2,j,none⟩ = C[j]?)∧(∀ j,W.frozen? ⟨w.heap.size + 2,j,none⟩ = false)∧But [] w W:=by
 subst hW
 have z1 : (w.alloc (.cells A t)).heap.size = w.heap.size + 1:=by simp
 have z2 : ((w.alloc (.cells A t)).alloc (.cells B t)).heap.size = w.heap.size + 2:=by simp
 have e0 : ∀ (w : World) (o : Obj) (p : Addr),p.block < w.heap.size→(w.alloc o).cell? p = w.cell? p:=fun w o p hp => ((But.refl [] w).alloc o).cell hp (by simp)
 refine ⟨fun j => ?_,fun j => ?_,fun j => ?_,fun j => ?_,(((But.refl [] w).alloc _).alloc _).alloc _⟩
 ·rw [e0 _ _ _ (by rw [z2]; show w.heap.size < _; omega),e0 _ _ _ (by rw [z1]; show w.heap.size < _; omega),World.cell?_alloc_new]
 ·rw [e0 _ _ _ (by rw [z2]; show w.heap.size + 1 < _; omega),← z1,World.cell?_alloc_new]
 ·rw [← z2,World.cell?_alloc_new]
 ·have : (((w.alloc (.cells A t)).alloc (.cells B t)).alloc (.cells C t)).frozen? ⟨((w.alloc (.cells A t)).alloc (.cells B t)).heap.size,j,none⟩ = false:=World.frozen?_alloc_new _ _ _ _
  rw [z2] at this; exact this

theorem div_le_B (a k : Nat) (h : a < 18446744073709551616) : a / k < 18446744073709551616:=Nat.lt_of_le_of_lt (Nat.div_le_self _ _) h
theorem or_zero (a b : Nat) : a ||| b = 0 ↔ a = 0∧b = 0:=Nat.or_eq_zero_iff

set_option maxHeartbeats 8000000 in
set_option maxRecDepth 100000 in
theorem mulWords_frac (s : Bool) (f g : Rat) (w : World) (hs : s = (decide (f.num < 0) != decide (g.num < 0))) (hfp : f.num.natAbs < 18446744073709551616) (hfq : f.den < 18446744073709551616) (hgp : g.num.natAbs < 18446744073709551616) (hgq : g.den < 18446744073709551616) :
  Calls Tryz.prog 90 #[.bool s,.agg #[.bool (decide (f.num < 0)),.int .u64 (f.num.natAbs : Int),.int .u64 ((f.den : Int) - 1),.pointer none],.agg #[.bool (decide (g.num < 0)),.int .u64 (g.num.natAbs : Int),.int .u64 ((g.den : Int) - 1),.pointer none]] w fun e w' => ∃ (r : Bool) (x y : Int) (ok : Bool),e = .returned (.tuple #[.agg #[.bool r,.int .u64 x,.int .u64 y,.pointer none],.bool ok])∧(ok = true→FracAt w' (.agg #[.bool r,.int .u64 x,.int .u64 y,.pointer none]) (f * g))∧But [] w w':=by
 have hb0:=den_pos f
 have hd0:=den_pos g
 obtain ⟨k1,hk1⟩ : ∃ k1,k1 = Nat.gcd g.den f.num.natAbs:=⟨_,rfl⟩
 obtain ⟨k2,hk2⟩ : ∃ k2,k2 = Nat.gcd f.den g.num.natAbs:=⟨_,rfl⟩
 obtain ⟨hn,hd⟩:=mul_low f g k1 k2 (by rw [hk1,Nat.gcd_comm]) (by rw [hk2,Nat.gcd_comm])
 rw [← hs] at hn
 have k10 : 0 < k1:=by rw [hk1]; exact Nat.gcd_pos_of_pos_left _ hd0
 have k20 : 0 < k2:=by rw [hk2]; exact Nat.gcd_pos_of_pos_left _ hb0
 have k1B : k1 < 18446744073709551616:=Nat.lt_of_le_of_lt (by rw [hk1]; exact Nat.gcd_le_left _ hd0) hgq
 have k2B : k2 < 18446744073709551616:=Nat.lt_of_le_of_lt (by rw [hk2]; exact Nat.gcd_le_left _ hb0) hfq
 have G1:=hide (fun W => gcdWords_any g.den f.num.natAbs W hgq hfp)
 have G2:=hide (fun W => gcdWords_any f.den g.num.natAbs W hfq hgp)
 rw [← hk1] at G1
 rw [← hk2] at G2
 have U1:=hide (fun W => under_any (decide (f.num < 0)) f.num.natAbs f.den hfq hb0 W)
 have U2:=hide (fun W => under_any (decide (g.num < 0)) g.num.natAbs g.den hgq hd0 W)
 have q1B:=div_le_B f.num.natAbs k1 hfp
 have q2B:=div_le_B g.num.natAbs k2 hgp
 have q3B:=div_le_B f.den k2 hfq
 have q4B:=div_le_B g.den k1 hgq
 obtain ⟨lo1,hi1,hlo1,hhi1,e1⟩:=mul_letters (f.num.natAbs / k1) (g.num.natAbs / k2) 0 q1B q2B (by omega)
 obtain ⟨lo2,hi2,hlo2,hhi2,e2⟩:=mul_letters (f.den / k2) (g.den / k1) 0 q3B q4B (by omega)
 rw [Nat.add_zero] at e1 e2
 have M1:=hide (fun W => mul64_any (f.num.natAbs / k1) (g.num.natAbs / k2) hi1 lo1 q1B q2B hlo1 e1 W)
 have M2:=hide (fun W => mul64_any (f.den / k2) (g.den / k1) hi2 lo2 q3B q4B hlo2 e2 W)
 obtain ⟨z,hz⟩ : ∃ z,z = hi1 ||| hi2:=⟨_,rfl⟩
 have EO : bits .or .u64 (hi1 : Int) (hi2 : Int) = (z : Int):=by rw [bits_or_u64_nat _ _ hhi1 hhi2,hz]
 obtain ⟨r,hr⟩ : ∃ r,r = (s && decide (lo1 ≠ 0)):=⟨_,rfl⟩
 obtain ⟨x,hx⟩ : ∃ x,IntKind.u64.wrap ((lo2 : Int) - 1) = x:=⟨_,rfl⟩
 have FIN : Hid (∀ (W : World),((z : Int) == 0) = true→FracAt W (.agg #[.bool r,.int .u64 (lo1 : Int),.int .u64 x,.pointer none]) (f * g)):=by
  intro W hz0
  have hz1 : z = 0:=by have:=beq_iff_eq.1 hz0; omega
  rw [hz,or_zero] at hz1
  obtain ⟨h1,h2⟩:=hz1
  rw [h1,Nat.mul_zero,Nat.add_zero] at e1
  rw [h2,Nat.mul_zero,Nat.add_zero] at e2
  rw [e1] at hn
  rw [e2] at hd
  have hlp : 0 < lo2:=by rw [← hd]; exact den_pos _
  have hx2 : x = (lo2 : Int) - 1:=by rw [← hx,IntKind.wrap_u64]; omega
  left
  have habs : (f * g).num.natAbs = lo1:=by rw [hn,sgn_abs]
  rw [habs,hd]
  refine ⟨hlo1,hlo2,?_⟩
  rw [hr,hx2,hn,sgn_neg]
 have D1 : (f.num.natAbs : Int) / (k1 : Int) = ((f.num.natAbs / k1 : Nat) : Int):=(Int.natCast_ediv _ _).symm
 have D2 : (g.num.natAbs : Int) / (k2 : Int) = ((g.num.natAbs / k2 : Nat) : Int):=(Int.natCast_ediv _ _).symm
 have D3 : (f.den : Int) / (k2 : Int) = ((f.den / k2 : Nat) : Int):=(Int.natCast_ediv _ _).symm
 have D4 : (g.den : Int) / (k1 : Int) = ((g.den / k1 : Nat) : Int):=(Int.natCast_ediv _ _).symm
 have OS:=hide (fun W => ofWords_gen s lo1 lo2 r hr x hx W)
 clear hn hd hs hk1 hk2 e1 e2 hz hr hx
 generalize f.num.natAbs / k1 = q1 at *
 generalize g.num.natAbs / k2 = q2 at *
 generalize f.den / k2 = q3 at *
 generalize g.den / k1 = q4 at *
 generalize decide (f.num < 0) = s1 at *
 generalize decide (g.num < 0) = s2 at *
 generalize f.num.natAbs = a at *
 generalize g.num.natAbs = c at *
 generalize hfd : f.den = b at *
 generalize hgd : g.den = d at *
 clear hfd hgd
 have T1 : (a : Int).tdiv (k1 : Int) = (q1 : Int):=by rw [Int.tdiv_eq_ediv_of_nonneg (by omega)]; exact D1
 have T2 : (c : Int).tdiv (k2 : Int) = (q2 : Int):=by rw [Int.tdiv_eq_ediv_of_nonneg (by omega)]; exact D2
 have T3 : (b : Int).tdiv (k2 : Int) = (q3 : Int):=by rw [Int.tdiv_eq_ediv_of_nonneg (by omega)]; exact D3
 have T4 : (d : Int).tdiv (k1 : Int) = (q4 : Int):=by rw [Int.tdiv_eq_ediv_of_nonneg (by omega)]; exact D4
 have W1 : IntKind.u64.wrap (q1 : Int) = (q1 : Int):=by rw [IntKind.wrap_u64]; omega
 have W2 : IntKind.u64.wrap (q2 : Int) = (q2 : Int):=by rw [IntKind.wrap_u64]; omega
 have W3 : IntKind.u64.wrap (q3 : Int) = (q3 : Int):=by rw [IntKind.wrap_u64]; omega
 have W4 : IntKind.u64.wrap (q4 : Int) = (q4 : Int):=by rw [IntKind.wrap_u64]; omega
 have z1 : ((k1 : Int) == 0) = false:=beq_eq_false_iff_ne.2 (by omega)
 have z2 : ((k2 : Int) == 0) = false:=beq_eq_false_iff_ne.2 (by omega)
 go_enter Tryz.func90,Tryz.ntmps90
 go_wp2
 obtain ⟨W,hW⟩ : ∃ W,W = (((w.alloc (.cells #[.bool s1,.int .u64 (a : Int),.int .u64 ((b : Int) - 1),.pointer none] 29)).alloc (.cells #[.bool s2,.int .u64 (c : Int),.int .u64 ((d : Int) - 1),.pointer none] 29)).alloc (.cells #[.bool false,.int .u64 0,.int .u64 0,.pointer none] 29)):=⟨_,rfl⟩
 obtain ⟨tA,tB,tC,fz,hB⟩:=three_new w W _ _ _ _ hW
 have x0:=tA 0
 have x1:=tA 1
 have x2:=tA 2
 have x3:=tA 3
 have y0:=tB 0
 have y1:=tB 1
 have y2:=tB 2
 have y3:=tB 3
 have r0:=tC 0
 have r1:=tC 1
 have r2:=tC 2
 have r3:=tC 3
 simp only [List.getElem?_toArray,List.getElem?_cons_zero,List.getElem?_cons_succ] at x0 x1 x2 x3 y0 y1 y2 y3 r0 r1 r2 r3
 clear tA tB tC
 rw [← hW]
 clear hW
 obtain ⟨ga,hga⟩ : ∃ ga,ga = w.heap.size:=⟨_,rfl⟩
 obtain ⟨gb,hgb⟩ : ∃ gb,gb = w.heap.size + 1:=⟨_,rfl⟩
 obtain ⟨gr,hgr⟩ : ∃ gr,gr = w.heap.size + 2:=⟨_,rfl⟩
 rw [← hga] at x0 x1 x2 x3
 rw [← hgb] at y0 y1 y2 y3
 rw [← hgr] at r0 r1 r2 r3 fz
 rw [← hgr,← hgb,← hga]
 have HGR : Hid (w.heap.size ≤ gr):=by show _ ≤ _; omega
 clear hga hgb hgr
 have HB:=hide hB
 clear hB
 have hrl : gr < W.heap.size:=lt_of_cell r0
 go_region_held (fun w' => w'.cell? ⟨ga,0,none⟩ = some (.bool s1)∧w'.cell? ⟨ga,1,none⟩ = some (.int .u64 (a : Int))∧w'.cell? ⟨ga,2,none⟩ = some (.int .u64 ((b : Int) - 1))∧w'.cell? ⟨ga,3,none⟩ = some (.pointer none)∧w'.cell? ⟨gb,0,none⟩ = some (.bool s2)∧w'.cell? ⟨gb,1,none⟩ = some (.int .u64 (c : Int))∧w'.cell? ⟨gb,2,none⟩ = some (.int .u64 ((d : Int) - 1))∧w'.cell? ⟨gb,3,none⟩ = some (.pointer none)) (go_keep) (first
  | (go_at_call 126; have hchk:=B1; clear hchk; refine (unhide U2 _).mono ?_; rintro e w2 ⟨rfl,hb2⟩; have B2 : But [] W w2:=B1.trans' hb2; have m0:=B2.cell_some x0 (by simp); have m1:=B2.cell_some x1 (by simp); have m2:=B2.cell_some x2 (by simp); have m3:=B2.cell_some x3 (by simp); have n0:=B2.cell_some y0 (by simp); have n1:=B2.cell_some y1 (by simp); have n2:=B2.cell_some y2 (by simp); have n3:=B2.cell_some y3 (by simp))
  | (go_at_call 126; refine (unhide U1 _).mono ?_; rintro e w1 ⟨rfl,hb1⟩; have B1 : But [] W w1:=(by first | exact hb1 | exact (But.refl _ _).drew.trans' hb1); have k0:=B1.cell_some x0 (by simp); have k1':=B1.cell_some x1 (by simp); have k2':=B1.cell_some x2 (by simp); have k3:=B1.cell_some x3 (by simp); have l0:=B1.cell_some y0 (by simp); have l1:=B1.cell_some y1 (by simp); have l2:=B1.cell_some y2 (by simp); have l3:=B1.cell_some y3 (by simp)))
 have t0:=B2.cell_some r0 (by simp)
 have t1:=B2.cell_some r1 (by simp)
 have t2:=B2.cell_some r2 (by simp)
 have t3:=B2.cell_some r3 (by simp)
 have tfw2 : ∀ j,w2.frozen? ⟨gr,j,none⟩ = false:=fun j => (B2.frozen (p:=⟨gr,j,none⟩) hrl (by simp)).trans (fz j)
 have HBw2 : Hid (But [] w w2):=(unhide HB).trans' B2
 clear B1 B2 hb1 hb2 k0 k1' k2' k3 l0 l1 l2 l3 m0 m2 m3 n0 n2 n3 x0 x1 x2 x3 y0 y1 y2 y3 r0 r1 r2 r3 fz hrl HB U1 U2
 go_wp2
 go_quiet ((first | (go_at_call_of 116 (Value.int IntKind.u64 (d : Int)); exact Calls.quiet_of (unhide G1 _)) | (go_at_call_of 116 (Value.int IntKind.u64 (b : Int)); exact Calls.quiet_of (unhide G2 _))))
 obtain ⟨V1,hV1⟩ : ∃ V1,V1 = w2.drewN nq:=⟨_,rfl⟩
 rw [← hV1]
 have hcV1 : ∀ p,V1.cell? p = w2.cell? p:=fun p => by rw [hV1]; rfl
 have hfV1 : ∀ p,V1.frozen? p = w2.frozen? p:=fun p => by rw [hV1]; rfl
 have HBV1 : Hid (But [] w V1):=by show But _ _ _; rw [hV1]; exact (unhide HBw2).drewN nq
 rw [← hcV1] at m1 n1 t0 t1 t2 t3
 have tfV1 : ∀ j,V1.frozen? ⟨gr,j,none⟩ = false:=fun j => (hfV1 _).trans (tfw2 j)
 clear hV1 hcV1 hfV1 tfw2
 go_wp2
 go_quiet ((go_at_call 127; exact Calls.quiet_of_same (unhide M1 _)))
 obtain ⟨V2,hV2⟩ : ∃ V2,V2 = V1.drewN nq:=⟨_,rfl⟩
 rw [← hV2]
 have hcV2 : ∀ p,V2.cell? p = V1.cell? p:=fun p => by rw [hV2]; rfl
 have hfV2 : ∀ p,V2.frozen? p = V1.frozen? p:=fun p => by rw [hV2]; rfl
 have HBV2 : Hid (But [] w V2):=by show But _ _ _; rw [hV2]; exact (unhide HBV1).drewN nq
 rw [← hcV2] at m1 n1 t0 t1 t2 t3
 have tfV2 : ∀ j,V2.frozen? ⟨gr,j,none⟩ = false:=fun j => (hfV2 _).trans (tfV1 j)
 clear hV2 hcV2 hfV2 tfV1
 go_wp2
 go_quiet ((go_at_call 127; exact Calls.quiet_of_same (unhide M2 _)))
 obtain ⟨V3,hV3⟩ : ∃ V3,V3 = V2.drewN nq:=⟨_,rfl⟩
 rw [← hV3]
 have hcV3 : ∀ p,V3.cell? p = V2.cell? p:=fun p => by rw [hV3]; rfl
 have hfV3 : ∀ p,V3.frozen? p = V2.frozen? p:=fun p => by rw [hV3]; rfl
 have HBV3 : Hid (But [] w V3):=by show But _ _ _; rw [hV3]; exact (unhide HBV2).drewN nq
 rw [← hcV3] at m1 n1 t0 t1 t2 t3
 have tfV3 : ∀ j,V3.frozen? ⟨gr,j,none⟩ = false:=fun j => (hfV3 _).trans (tfV2 j)
 clear hV3 hcV3 hfV3 tfV2
 go_wp2_with fail
 refine (unhide OS _).mono ?_
 rintro e w4 ⟨rfl,hb4⟩
 have u0:=hb4.cell_some t0 (by simp)
 have u1:=hb4.cell_some t1 (by simp)
 have u2:=hb4.cell_some t2 (by simp)
 have u3:=hb4.cell_some t3 (by simp)
 have hgl : gr < V3.heap.size:=lt_of_cell t0
 have uf : ∀ j,w4.frozen? ⟨gr,j,none⟩ = false:=fun j => (hb4.frozen (p:=⟨gr,j,none⟩) hgl (by simp)).trans (tfV3 j)
 have HB4 : Hid (But [] w w4):=(unhide HBV3).trans' hb4
 clear hb4 t0 t1 t2 t3 tfV3 hgl
 obtain ⟨ok,hok⟩ : ∃ ok,((z : Int) == 0) = ok:=⟨_,rfl⟩
 have FIN2 : Hid (∀ W,ok = true→FracAt W (.agg #[.bool r,.int .u64 (lo1 : Int),.int .u64 x,.pointer none]) (f * g)):=fun W h1 => unhide FIN W (by rw [hok]; exact h1)
 clear FIN
 go_wp2
 have hBf:=((((unhide HB4).setCell (p:=⟨gr,0,none⟩) (.inr (unhide HGR)) (.bool r)).setCell (p:=⟨gr,1,none⟩) (.inr (unhide HGR)) (.int .u64 (lo1 : Int))).setCell (p:=⟨gr,2,none⟩) (.inr (unhide HGR)) (.int .u64 x)).setCell (p:=⟨gr,3,none⟩) (.inr (unhide HGR)) (.pointer none)
 exact bodyPost_ret (v:=.tuple #[.agg #[.bool r,.int .u64 (lo1 : Int),.int .u64 x,.pointer none],.bool ok]) (by simp [results,Tryz.results90,go_sem,u0,u1,u2,u3]) rfl ⟨r,(lo1 : Int),x,ok,rfl,fun h1 => unhide FIN2 _ h1,hBf⟩
end Go.Proofs.YtloojmaamaambaaGreatDoor
