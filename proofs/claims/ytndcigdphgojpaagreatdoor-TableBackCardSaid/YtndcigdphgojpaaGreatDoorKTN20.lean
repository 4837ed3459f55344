/- Two numbers are lessened, as the Go text of package nat does it. -/
import Derived.Deep.LoopGhost
import Derived.Test.YtndcigdphgojpaaGreatDoorKTG0
import Derived.Test.YtndcigdphgojpaaGreatDoorKTN17a
import Derived.Test.YtndcigdphgojpaaGreatDoorKTN17b
import Derived.Test.YtndcigdphgojpaaGreatDoorKTN19
namespace Go.Proofs.YtndcigdphgojpaaGreatDoor
open Go.RowKit

theorem two_top (X m : Nat) (h : (wd 18446744073709551616 X).length = m + 2) : X = vl 18446744073709551616 ((wd 18446744073709551616 X).take m) + 18446744073709551616 ^ m * ((wd 18446744073709551616 X)[m]?.getD 0 + 18446744073709551616 * (wd 18446744073709551616 X)[m + 1]?.getD 0):=by
 have e:=vl_split 18446744073709551616 (wd 18446744073709551616 X) m (by omega)
 rw [drop_one _ (m + 1) (by omega),vl_one,vl_wd (by omega)] at e
 exact e
theorem one_top (X m : Nat) (h : (wd 18446744073709551616 X).length = m + 1) : X = vl 18446744073709551616 ((wd 18446744073709551616 X).take m) + 18446744073709551616 ^ m * ((wd 18446744073709551616 X)[m]?.getD 0 + 18446744073709551616 * 0):=by
 have e:=vl_split 18446744073709551616 (wd 18446744073709551616 X) m (by omega)
 rw [List.drop_eq_nil_of_le (by omega),vl,vl_wd (by omega)] at e
 exact e
theorem top_sum (x1 x0 n : Nat) (hn : n ≤ 63) (hx0 : x0 < 18446744073709551616) (h : x1 * 2 ^ n < 18446744073709551616) : x1 * 2 ^ n + x0 / 2 ^ (64 - n) < 18446744073709551616:=by
 have hp : 18446744073709551616 = 2 ^ (64 - n) * 2 ^ n:=by rw [← Nat.pow_add,show (64 - n) + n = 64 from by omega]
 have h5 : (x1 + 1) * 2 ^ n ≤ 18446744073709551616:=by
  rw [hp] at h ⊢
  exact Nat.mul_le_mul_right _ (Nat.lt_of_mul_lt_mul_right h)
 rw [Nat.add_mul,Nat.one_mul] at h5
 have:=(sh_or x1 x0 n hn hx0).2
 generalize x0 / 2 ^ (64 - n) = z at *
 generalize x1 * 2 ^ n = y at *
 generalize 2 ^ n = P at *
 omega
theorem TakeInv.fin' {ps qs ps' qs' : List Nat} {c1 c2 c3 c4 n up dn lf rt bo ow : Nat} (h : TakeInv ps qs ps' qs' c1 c2 c3 c4 n up dn lf rt bo ow) (hn : ps.length = n) (hl : ps.length = qs.length) (P' Q' X Y hp hq : Nat)
  (eP : P' = vl 18446744073709551616 ps + 18446744073709551616 ^ n * hp) (eQ : Q' = vl 18446744073709551616 qs + 18446744073709551616 ^ n * hq) (eX : X + c2 * Q' = c1 * P') (eY : Y + c3 * P' = c4 * Q') (hX : X < 18446744073709551616 ^ n) (hY : Y < 18446744073709551616 ^ n) : vl 18446744073709551616 ps' = X∧vl 18446744073709551616 qs' = Y:=by
 subst hn
 exact h.fin hl P' Q' X Y hp hq eP eQ eX eY hX hY
theorem stepsOf_any (vx vy : Value) (X Y : Nat) (w : World) (hx : Sl .u64 w vx (wd 18446744073709551616 X)) (hy : Sl .u64 w vy (wd 18446744073709551616 Y)) (h2 : 2 ≤ (wd 18446744073709551616 Y).length) (hn : (wd 18446744073709551616 X).length < (wd 18446744073709551616 Y).length + 2) (hle : Y ≤ X) (hl : (wd 18446744073709551616 X).length < 268435456) :
  Calls Tryz.prog 92 #[vx,vy] w fun e w' => ∃ (xx xy yx yy : Nat) (back : Bool),e = .returned (.agg #[.int .u64 (xx : Int),.int .u64 (xy : Int),.int .u64 (yx : Int),.int .u64 (yy : Int),.bool back])∧xx < 18446744073709551616∧xy < 18446744073709551616∧yx < 18446744073709551616∧yy < 18446744073709551616∧StepsOK X Y xx xy yx yy back∧But [] w w':=by
 have hlen:=wd_len_mono hle
 rcases hx.open with ⟨e,-⟩ | ⟨-,b1,o1,c1,rfl,hc1,-,hcx⟩
 ·rw [e,List.length_nil] at hlen; omega
 rcases hy.open with ⟨e,-⟩ | ⟨-,b2,o2,c2,rfl,hc2,-,hcy⟩
 ·rw [e] at h2; simp at h2
 obtain ⟨m,hm⟩ : ∃ m,(wd 18446744073709551616 X).length = m + 2:=⟨(wd 18446744073709551616 X).length - 2,by omega⟩
 have hXp : 0 < X:=by
  rcases Nat.eq_zero_or_pos X with h | h
  ·subst h; rw [wd_zero] at hm; simp at hm
  ·exact h
 obtain ⟨t1,t2,-,-⟩:=top_pos X hXp
 have ht : topW X = (wd 18446744073709551616 X)[m + 1]?.getD 0:=by unfold topW; rw [hm]; rfl
 obtain ⟨z1,z2,-,-⟩:=lz_facts (topW X) t1 t2
 have eX:=two_top X m hm
 have lX:=vl_take_lt (wd 18446744073709551616 X) m (by omega) (wd_mem (by omega) X)
 have mX:=wd_mem (B:=18446744073709551616) (by omega) X
 have mY:=wd_mem (B:=18446744073709551616) (by omega) Y
 have k1:=hcx (m + 1) (by omega)
 have k0:=hcx m (by omega)
 have bx0:=mem_getD mX (by omega : 0 < 18446744073709551616) m
 rw [ht] at t1 t2 z1 z2
 obtain ⟨ε,e1,e2⟩:=lead_split ((wd 18446744073709551616 X)[m + 1]?.getD 0) ((wd 18446744073709551616 X)[m]?.getD 0) m (lz ((wd 18446744073709551616 X)[m + 1]?.getD 0)) _ z1 lX
 rw [← eX] at e1
 have haB:=top_sum _ _ _ z1 bx0 z2
 rcases Nat.lt_or_ge (wd 18446744073709551616 Y).length (m + 2) with hsh | hsh
 ·have hny : (wd 18446744073709551616 Y).length = m + 1:=by omega
  have eY:=one_top Y m hny
  have lY:=vl_take_lt (wd 18446744073709551616 Y) m (by omega) mY
  obtain ⟨δ,f1,f2⟩:=lead_split 0 ((wd 18446744073709551616 Y)[m]?.getD 0) m (lz ((wd 18446744073709551616 X)[m + 1]?.getD 0)) _ z1 lY
  rw [← eY] at f1
  rw [Nat.zero_mul] at f1
  have hda:=lead_le _ _ _ _ _ X Y e1 f1 e2 hle
  exact stepsOf_less b1 o1 c1 b2 o2 c2 _ _ w ((wd 18446744073709551616 X)[m + 1]?.getD 0) ((wd 18446744073709551616 X)[m]?.getD 0) 0 ((wd 18446744073709551616 Y)[m]?.getD 0) _ (0 + (wd 18446744073709551616 Y)[m]?.getD 0 / 2 ^ (64 - lz ((wd 18446744073709551616 X)[m + 1]?.getD 0))) (lz ((wd 18446744073709551616 X)[m + 1]?.getD 0)) m X Y hm hny (by omega) k1 k0 (fun h => by omega) (hcy m (by omega)) t1 t2 bx0 (by omega) (mem_getD mY (by omega) m) z1 (by show _ = _; rfl) (by show _ = _; rfl) (by show _ = _; rw [if_neg (by omega)]) z2 (fun h => by omega) haB (Nat.lt_of_le_of_lt hda haB) hda (fun a b xx xy yx yy back h => StepsOK.of h X Y _ ε δ e1 f1 e2 f2) hc1 hc2
 ·have hny : (wd 18446744073709551616 Y).length = m + 2:=by omega
  have eY:=two_top Y m hny
  have lY:=vl_take_lt (wd 18446744073709551616 Y) m (by omega) mY
  obtain ⟨δ,f1,f2⟩:=lead_split ((wd 18446744073709551616 Y)[m + 1]?.getD 0) ((wd 18446744073709551616 Y)[m]?.getD 0) m (lz ((wd 18446744073709551616 X)[m + 1]?.getD 0)) _ z1 lY
  rw [← eY] at f1
  have hda:=lead_le _ _ _ _ _ X Y e1 f1 e2 hle
  exact stepsOf_same b1 o1 c1 b2 o2 c2 _ _ w ((wd 18446744073709551616 X)[m + 1]?.getD 0) ((wd 18446744073709551616 X)[m]?.getD 0) ((wd 18446744073709551616 Y)[m + 1]?.getD 0) ((wd 18446744073709551616 Y)[m]?.getD 0) _ _ (lz ((wd 18446744073709551616 X)[m + 1]?.getD 0)) m X Y hm hny (by omega) k1 k0 (fun _ => hcy (m + 1) (by omega)) (hcy m (by omega)) t1 t2 bx0 (mem_getD mY (by omega) _) (mem_getD mY (by omega) m) z1 (by show _ = _; rfl) (by show _ = _; rfl) (by show _ = _; rw [if_pos hny]) z2 (fun _ => Nat.lt_of_le_of_lt (Nat.le_trans (Nat.le_add_right _ _) hda) haB) haB (Nat.lt_of_le_of_lt hda haB) hda (fun a b xx xy yx yy back h => StepsOK.of h X Y _ ε δ e1 f1 e2 f2) hc1 hc2

/-- what becomes of two numbers: lesser ones with the same divisors -/
def Less (lo : Nat) (w : World) (X Y : Nat) (e : Ending) (w' : World) : Prop:=∃ v1 v2 X' Y',e = .returned (.tuple #[v1,v2])∧Pair lo w' v1 v2 X' Y'∧Y' ≤ X'∧Y' < Y∧X' ≤ X∧Nat.gcd X' Y' = Nat.gcd X Y∧∃ l : List Nat,(∀ x ∈ l,lo ≤ x)∧But l w w'

theorem gcd_mod (X Y : Nat) : Nat.gcd Y (X % Y) = Nat.gcd X Y:=by rw [Nat.gcd_comm X Y,Nat.gcd_rec Y X,Nat.gcd_comm]

set_option maxHeartbeats 4000000 in
set_option maxRecDepth 100000 in
theorem taken_any (lo : Nat) (vx vy : Value) (X Y xx xy yx yy : Nat) (back : Bool) (w : World) (hp : Pair lo w vx vy X Y) (h2 : 2 ≤ (wd 18446744073709551616 Y).length) (hle : Y ≤ X) (hl : (wd 18446744073709551616 X).length < 1073741824) (hxx : xx < 18446744073709551616) (hxy : xy < 18446744073709551616) (hyx : yx < 18446744073709551616) (hyy : yy < 18446744073709551616) (hs : StepsOK X Y xx xy yx yy back) (hne : xy ≠ 0) :
  Calls Tryz.prog 93 #[.agg #[.int .u64 (xx : Int),.int .u64 (xy : Int),.int .u64 (yx : Int),.int .u64 (yy : Int),.bool back],vx,vy] w fun e w' => Less lo w X Y e w':=by
 have hlen:=wd_len_mono hle
 rcases hs with h0 | ⟨X',Y',hrel,hlt,hXY,hg⟩
 ·exact absurd h0 hne
 have mX:=wd_mem (B:=18446744073709551616) (by omega) X
 have mY:=wd_mem (B:=18446744073709551616) (by omega) Y
 rcases hp.s1.open with ⟨e,-⟩ | ⟨-,g1,o1,c1,rfl,hc1,-,-⟩
 ·rw [e,List.length_nil] at hlen; omega
 rcases hp.s2.open with ⟨e,-⟩ | ⟨-,g2,o2,c2,rfl,hc2,-,-⟩
 ·rw [e] at h2; simp at h2
 have hap : g1 ≠ g2:=hp.ap _ _ _ _ _ _ _ _ rfl rfl
 obtain ⟨l1,f1⟩:=hp.o1 _ _ _ _ rfl
 obtain ⟨l2,f2⟩:=hp.o2 _ _ _ _ rfl
 have s1:=hp.s1.seg f1
 have s2:=hp.s2.seg f2
 have sP:=s1.sub 0 (wd 18446744073709551616 Y).length (by omega)
 rw [List.drop_zero,Nat.add_zero] at sP
 have lP : ((wd 18446744073709551616 X).take (wd 18446744073709551616 Y).length).length = (wd 18446744073709551616 Y).length:=by rw [List.length_take]; omega
 have eP:=vl_drop_div (wd 18446744073709551616 X) (wd 18446744073709551616 Y).length hlen
 rw [vl_wd (by omega)] at eP
 have eQ : Y = vl 18446744073709551616 (wd 18446744073709551616 Y) + 18446744073709551616 ^ (wd 18446744073709551616 Y).length * 0:=by rw [vl_wd (by omega)]; omega
 have hYl:=lt_wd Y
 have mP : ∀ x ∈ (wd 18446744073709551616 X).take (wd 18446744073709551616 Y).length,x < 18446744073709551616:=fun x hx => mX x (List.mem_of_mem_take hx)
 cases back
 ·simp only [Bool.false_eq_true,if_false] at hrel
  refine (taken_fwd g1 o1 c1 g2 o2 c2 _ _ ((wd 18446744073709551616 X).take (wd 18446744073709551616 Y).length) (wd 18446744073709551616 Y) w xx xy yx yy hxx hxy hyx hyy hap sP s2 lP rfl (by omega) hlen hc1 hc2 hl mP mY X' Y' (fun ps' qs' u d l r b o h => ?_)).mono ?_
  ·exact h.fin' lP lP X Y X' Y' _ 0 eP eQ hrel.1 hrel.2 (by omega) (by omega)
  ·rintro e w' ⟨v1,v2,rfl,h1,h2',hb,ho1,ho2⟩
   exact ⟨v1,v2,X',Y',rfl,⟨h1,h2',ho1.own l1,ho2.own l2,fun b off n c b' off' n' c' e1 e2 => by rw [(ho1 _ _ _ _ e1).1,(ho2 _ _ _ _ e2).1]; exact hap⟩,by omega,by omega,by omega,hg,[g1,g2],fun x hx => by simp at hx; rcases hx with rfl | rfl <;> assumption,hb⟩
 ·simp only [if_true] at hrel
  refine (taken_back g1 o1 c1 g2 o2 c2 _ _ (wd 18446744073709551616 Y) ((wd 18446744073709551616 X).take (wd 18446744073709551616 Y).length) w xx xy yx yy hxx hxy hyx hyy hap sP s2 rfl lP (by omega) hlen hc1 hc2 hl mY mP X' Y' (fun ps' qs' u d l r b o h => ?_)).mono ?_
  ·exact h.fin' rfl lP.symm Y X X' Y' 0 _ eQ eP hrel.1 hrel.2 (by omega) (by omega)
  ·rintro e w' ⟨v1,v2,rfl,h1,h2',hb,ho1,ho2⟩
   exact ⟨v1,v2,X',Y',rfl,⟨h1,h2',ho1.own l2,ho2.own l1,fun b off n c b' off' n' c' e1 e2 => by rw [(ho1 _ _ _ _ e1).1,(ho2 _ _ _ _ e2).1]; exact hap.symm⟩,by omega,by omega,by omega,hg,[g1,g2],fun x hx => by simp at hx; rcases hx with rfl | rfl <;> assumption,hb⟩
end Go.Proofs.YtndcigdphgojpaaGreatDoor

namespace Go.Proofs.YtndcigdphgojpaaGreatDoor
open Go.RowKit

theorem quo_less {lo : Nat} {W w' : World} {vx vy v2 : Value} {X Y : Nat} (hp : Pair lo W vx vy X Y) (hY : 0 < Y) (hle : Y ≤ X) (hlo : lo ≤ W.heap.size) (h2 : Sl .u64 w' v2 (wd 18446744073709551616 (X % Y))) (hb : But [] W w') (he : Heir W vx w' v2) : Less lo W X Y (.returned (.tuple #[vy,v2])) w' :=
 ⟨vy,v2,Y,X % Y,rfl,⟨hp.s2.but_nil hb,h2,hp.o2.but hp.s2 hb,he.own hp.o1 hlo hp.s1 hb,fun b off n c b' off' n' c' e1 e2 => by
  have hpos : 0 < (wd 18446744073709551616 Y).length:=by rw [Nat.pos_iff_ne_zero]; intro e; rw [wd_len_zero (by omega)] at e; omega
  have h4:=hp.s2.lt hpos b off n c e1
  rcases he _ _ _ _ e2 with ⟨h3,-⟩ | ⟨o0,n0,c0,e0,-,-⟩
  ·omega
  ·exact fun e => hp.ap _ _ _ _ _ _ _ _ e0 e1 e.symm⟩,Nat.le_of_lt (Nat.mod_lt _ hY),Nat.mod_lt _ hY,hle,gcd_mod X Y,[],by simp,hb⟩
theorem Less.pre {lo : Nat} {w W : World} {X Y : Nat} {e : Ending} {w' : World} (h : Less lo W X Y e w') (hb : But [] w W) : Less lo w X Y e w':=by
 obtain ⟨v1,v2,X',Y',h1,h2,h3,h4,h5,h6,l,h7,h8⟩:=h
 exact ⟨v1,v2,X',Y',h1,h2,h3,h4,h5,h6,l,h7,(But.of_nil hb).trans h8 (fun x hx => .inl hx)⟩

set_option maxHeartbeats 4000000 in
set_option maxRecDepth 100000 in
theorem lessened_any (lo : Nat) (vx vy : Value) (X Y : Nat) (w : World) (hp : Pair lo w vx vy X Y) (h2 : 2 ≤ (wd 18446744073709551616 Y).length) (hle : Y ≤ X) (hl : (wd 18446744073709551616 X).length ≤ 1000000) (hlo : lo ≤ w.heap.size) :
  Calls Tryz.prog 58 #[vx,vy] w fun e w' => Less lo w X Y e w':=by
 have hlen:=wd_len_mono hle
 have hY : 0 < Y:=by
  rcases Nat.eq_zero_or_pos Y with h | h
  ·subst h; rw [wd_zero] at h2; simp at h2
  ·exact h
 have HQ:=hide (fun (W : World) (h : Pair lo W vx vy X Y) => natQuoRem_any vx vy X Y W h.s1 h.s2 hY (by omega) (by omega) (Short.of X Y hl))
 have HT:=hide (fun (W : World) (h : Pair lo W vx vy X Y) xx xy yx yy back => taken_any lo vx vy X Y xx xy yx yy back W h h2 hle (by omega))
 have HS:=hide (fun (h : (wd 18446744073709551616 X).length < (wd 18446744073709551616 Y).length + 2) => stepsOf_any vx vy X Y w hp.s1 hp.s2 h2 h hle (by omega))
 have HP:=hide hp
 obtain ⟨a1,c1,rfl,-,-⟩:=hp.s1
 obtain ⟨a2,c2,rfl,-,-⟩:=hp.s2
 clear hp
 have HLO:=hide hlo
 clear hlo
 generalize (wd 18446744073709551616 X).length = nx at *
 generalize (wd 18446744073709551616 Y).length = ny at *
 by_cases hn : nx < ny + 2
 ·go_enter Tryz.func58,Tryz.ntmps58
  go_wp2_with fail
  refine (unhide HS hn).mono ?_
  rintro e w1 ⟨xx,xy,yx,yy,back,rfl,hxx,hxy,hyx,hyy,hok,hb1⟩
  have HOK:=hide hok
  have HB1:=hide hb1
  clear hok hb1 HS
  have BW : Hid (But [] w (w1.alloc (.cells #[.int .u64 (xx : Int),.int .u64 (xy : Int),.int .u64 (yx : Int),.int .u64 (yy : Int),.bool back] 146))):=(unhide HB1).alloc _
  by_cases h0 : xy = 0
  ·subst h0
   go_wp2_with fail
   refine (unhide HQ _ ((unhide HP).but (unhide BW))).mono ?_
   rintro e w2 ⟨v1,v2,rfl,-,hv2,hb2,ho2⟩
   have R:=hide ((quo_less ((unhide HP).but (unhide BW)) hY hle (Nat.le_trans (unhide HLO) (unhide BW).size) hv2 hb2 ho2).pre (unhide BW))
   clear hv2 hb2 ho2
   go_wp2
   go_ret2
   exact unhide R
  ·have hz : ((xy : Int) != 0) = true:=by simp; exact h0
   go_wp2_with fail
   refine (unhide HT _ ((unhide HP).but (unhide BW)) xx xy yx yy back hxx hxy hyx hyy (unhide HOK) h0).mono ?_
   intro e w2 hless
   obtain ⟨v1,v2,X',Y',rfl,hrest⟩:=hless
   have R:=hide ((show Less lo _ X Y (.returned (.tuple #[v1,v2])) w2 from ⟨v1,v2,X',Y',rfl,hrest⟩).pre (unhide BW))
   clear hrest
   go_wp2
   go_ret2
   exact unhide R
 ·go_enter Tryz.func58,Tryz.ntmps58
  go_wp2_with fail
  refine (unhide HQ _ (unhide HP)).mono ?_
  rintro e w2 ⟨v1,v2,rfl,-,hv2,hb2,ho2⟩
  have R:=hide (quo_less (unhide HP) hY hle (unhide HLO) hv2 hb2 ho2)
  clear hv2 hb2 ho2
  go_wp2
  go_ret2
  exact unhide R
end Go.Proofs.YtndcigdphgojpaaGreatDoor

namespace Go.Proofs.YtndcigdphgojpaaGreatDoor
open Go.RowKit

/-- what holds of the two numbers ahead of a round -/
def GcdInv (w : World) (X Y : Nat) (Y' : Nat) (vx vy : Value) (wr : World) : Prop:=∃ X',Sl .u64 wr vx (wd 18446744073709551616 X')∧Sl .u64 wr vy (wd 18446744073709551616 Y')∧Y' ≤ X'∧X' ≤ X∧Nat.gcd X' Y' = Nat.gcd X Y∧But [] w wr∧(2 ≤ (wd 18446744073709551616 Y').length→Pair w.heap.size wr vx vy X' Y')

set_option maxHeartbeats 8000000 in
set_option maxRecDepth 100000 in
theorem natGcd_long (vx vy : Value) (X Y : Nat) (w : World) (hx : Sl .u64 w vx (wd 18446744073709551616 X)) (hy : Sl .u64 w vy (wd 18446744073709551616 Y)) (hle : Y < X) (h1 : 1 < Y) (hl : (wd 18446744073709551616 X).length ≤ 1000000) (u v : Value) (r : Int) (hcmp : Hid (Calls Tryz.prog 56 #[u,v] w fun e w' => e = .returned (.int .i64 r)∧∃ q,w' = w.drewN q)) (huv : (u = vx∧v = vy∧r = 1) ∨ (u = vy∧v = vx∧r = -1)) :
  Calls Tryz.prog 28 #[u,v] w fun e w' => ∃ v',e = .returned v'∧Sl .u64 w' v' (wd 18446744073709551616 (Nat.gcd X Y))∧But [] w w':=by
 have hlen:=wd_len_mono (Nat.le_of_lt hle)
 have hYl : 0 < (wd 18446744073709551616 Y).length:=by rw [Nat.pos_iff_ne_zero]; intro e; rw [wd_len_zero (by omega)] at e; omega
 have HO:=hide (fun W (h : Sl .u64 W vy (wd 18446744073709551616 Y)) => natOne_any vy Y W h (by omega) false (by show false = _; simp; omega))
 rcases hx.open with ⟨e,-⟩ | ⟨-,b1,o1,c1,rfl,hc1,-,-⟩
 ·rw [e,List.length_nil] at hlen; omega
 rcases hy.open with ⟨e,-⟩ | ⟨-,b2,o2,c2,rfl,hc2,-,-⟩
 ·rw [e] at hYl; simp at hYl
 have HC1:=hide (fun W (h : Sl .u64 W (.slice (some ⟨b1,o1,none⟩) (wd 18446744073709551616 X).length c1) (wd 18446744073709551616 X)) => clone_any b1 o1 c1 (wd 18446744073709551616 X) W h (by omega) (by omega))
 have HC2:=hide (fun W (h : Sl .u64 W (.slice (some ⟨b2,o2,none⟩) (wd 18446744073709551616 Y).length c2) (wd 18446744073709551616 Y)) => clone_any b2 o2 c2 (wd 18446744073709551616 Y) W h (by omega) (by omega))
 have HX:=hide hx
 have HY:=hide hy
 clear hx hy
 generalize hnx : (wd 18446744073709551616 X).length = nx at *
 generalize hny : (wd 18446744073709551616 Y).length = ny at *
 have NX:=hide hnx
 have NY:=hide hny
 clear hnx hny
 have n0 : ((ny : Int) == 0) = false:=beq_eq_false_iff_ne.2 (by omega)
 by_cases h2 : 2 ≤ ny
 ·rcases huv with ⟨rfl,rfl,rfl⟩ | ⟨rfl,rfl,rfl⟩
  all_goals
   go_enter Tryz.func28,Tryz.ntmps28
   go_wp2_with fail
   refine (unhide hcmp).mono ?_
   rintro e w1 ⟨rfl,q,rfl⟩
   go_wp2_with fail
   refine (unhide HO _ (by exact unhide HY)).mono ?_
   rintro e w1 ⟨rfl,hw⟩
   obtain rfl:=hw.symm
   clear hw
   go_wp2_with fail
   refine (unhide HC1 _ (by exact unhide HX)).mono ?_
   rintro e w2 ⟨v1,rfl,hv1,hb1,ho1,g1,d1,rfl⟩
   have B1 : Hid (But [] w w2):=((But.refl [] _).drewN q).trans' hb1
   have P1:=hide (And.intro hv1 ho1)
   clear hv1 hb1 ho1
   go_wp2_with fail
   refine (unhide HC2 _ ((unhide HY).but_nil (unhide B1))).mono ?_
   rintro e w3 ⟨v2,rfl,hv2,hb2,ho2,g2,d2,rfl⟩
   have hap : g1 < w2.heap.size:=(unhide P1).1.lt (by rw [unhide NX]; omega) g1 0 _ _ rfl
   have hap2 : w2.heap.size ≤ g2:=(ho2 _ _ _ _ rfl).1
   have A0 : Hid (GcdInv w X Y Y (.slice (some ⟨g1,0,none⟩) nx d1) (.slice (some ⟨g2,0,none⟩) ny d2) w3) :=
    ⟨X,(unhide P1).1.but_nil hb2,hv2,Nat.le_of_lt hle,Nat.le_refl _,rfl,(unhide B1).trans' hb2,fun _ => ⟨(unhide P1).1.but_nil hb2,hv2,(unhide P1).2.but (unhide P1).1 hb2,ho2.mono (unhide B1).size,fun b off n c b' off' n' c' e1 e2 => by
     simp only [Value.slice.injEq,Option.some.injEq,Addr.mk.injEq] at e1 e2
     obtain ⟨⟨rfl,-⟩,-⟩:=e1
     obtain ⟨⟨rfl,-⟩,-⟩:=e2
     omega⟩⟩
   clear hv2 hb2 ho2 P1 B1 HC1 HC2 hap hap2
   go_wp2_with fail
   go_loopg [0,1] Y (fun k p1 p2 wr => Hid (GcdInv w X Y k p1 p2 wr))
   case atStart => exact A0
   case round =>
    clear A0
    obtain ⟨X',hs1,hs2,hYX,hXX,hg,hB,hP⟩:=unhide hrel
    have hl1:=wd_len_mono hXX
    have hl2:=wd_len_mono hYX
    have HI:=hide (And.intro hs1 (And.intro hs2 (And.intro hYX (And.intro hXX (And.intro hg (And.intro hB hP))))))
    rw [unhide NX] at hl1
    by_cases hk2 : 2 ≤ (wd 18446744073709551616 gk).length
    ·have HL:=hide (lessened_any w.heap.size _ _ X' gk wr (hP hk2) hk2 hYX (by omega) hB.size)
     obtain ⟨a1,d1,rfl,-,-⟩:=hs1
     obtain ⟨a2,d2,rfl,-,-⟩:=hs2
     clear hrel hg hB hP
     generalize (wd 18446744073709551616 X').length = m1 at *
     generalize (wd 18446744073709551616 gk).length = m2 at *
     go_wp2_with fail
     refine (unhide HL).mono ?_
     rintro e w5 ⟨v1,v2,X2,Y2,rfl,hp2,hle2,hlt2,hX2,hg2,l,hlo,hbl⟩
     have R : Hid (GcdInv w X Y Y2 v1 v2 w5):=⟨X2,hp2.s1,hp2.s2,hle2,by omega,by rw [hg2]; exact (unhide HI).2.2.2.2.1,(unhide HI).2.2.2.2.2.1.trans hbl (fun x hx => .inr (hlo x hx)),fun _ => hp2⟩
     clear hp2 hg2 hlo hbl
     go_wp2
     go_roundg Y2
     case measure => exact hlt2
     case rel => exact R
    ·rcases Nat.eq_zero_or_pos gk with hz | hz
     ·subst hz
      rw [Nat.gcd_zero_right] at hg
      rw [wd_zero] at hs2
      obtain ⟨a1,d1,rfl,-,-⟩:=id hs1
      obtain ⟨a2,d2,rfl,-,-⟩:=hs2
      have R:=hide (And.intro hs1 hB)
      have HG:=hide hg
      clear hrel hg hB hP hs1 hk2 HI hl2
      generalize (wd 18446744073709551616 X').length = m1 at *
      go_wp2
      go_ret
      exact ⟨_,rfl,by rw [← unhide HG]; exact (unhide R).1,(unhide R).2⟩
     ·have hkB : gk < 18446744073709551616:=by
       rcases Nat.lt_or_ge gk 18446744073709551616 with h | h
       ·exact h
       ·exact absurd (wd_len_two gk h) hk2
      rcases word_open hs2 hkB with ⟨rfl,-⟩ | ⟨-,b,off,c,rfl,hcell⟩
      ·omega
      have HBY:=hide (byWord_any _ X' gk wr hs1 (by omega) hz hkB)
      have hmB : X' % gk < 18446744073709551616:=Nat.lt_trans (Nat.mod_lt _ hz) hkB
      have GW:=hide (fun W => gcdWords_any gk (X' % gk) W hkB hmB)
      have hgB : Nat.gcd gk (X' % gk) < 18446744073709551616:=Nat.lt_of_le_of_lt (Nat.gcd_le_left _ hz) hkB
      have HG : Hid (Nat.gcd gk (X' % gk) = Nat.gcd X Y):=by show _ = _; rw [gcd_mod]; exact hg
      have HOF:=hide (fun W => natOf_any (Nat.gcd gk (X' % gk)) hgB W)
      obtain ⟨a1,d1,rfl,-,-⟩:=id hs1
      have HB:=hide hB
      clear hrel hg hB hP hs1 hs2 HI hl2
      generalize (wd 18446744073709551616 X').length = m1 at *
      go_wp2_with fail
      refine (unhide HBY).mono ?_
      rintro e w5 ⟨v5,rfl,-,hb5⟩
      have hc5:=hb5.cell_some hcell (by simp)
      have HB5:=hide hb5
      clear hb5 hcell
      go_wp2_with fail
      refine (unhide GW _).mono ?_
      rintro e w6 ⟨rfl,q6,rfl⟩
      go_wp2_with fail
      refine (unhide HOF _).mono ?_
      rintro e w7 ⟨v7,rfl,hv7,hb7,-⟩
      rw [unhide HG] at hv7
      have R:=hide (And.intro hv7 ((unhide HB).trans' ((unhide HB5).trans' (((But.refl [] _).drewN q6).trans' hb7))))
      clear hv7 hb7
      go_wp2
      go_ret
      exact ⟨v7,rfl,(unhide R).1,(unhide R).2⟩
 ·rcases huv with ⟨rfl,rfl,rfl⟩ | ⟨rfl,rfl,rfl⟩
  all_goals
   go_enter Tryz.func28,Tryz.ntmps28
   go_wp2_with fail
   refine (unhide hcmp).mono ?_
   rintro e w1 ⟨rfl,q,rfl⟩
   go_wp2_with fail
   refine (unhide HO _ (by exact unhide HY)).mono ?_
   rintro e w1 ⟨rfl,hw⟩
   obtain rfl:=hw.symm
   clear hw
   have A0 : Hid (GcdInv w X Y Y (.slice (some ⟨b1,o1,none⟩) nx c1) (.slice (some ⟨b2,o2,none⟩) ny c2) (w.drewN q)) :=
    ⟨X,unhide HX,unhide HY,Nat.le_of_lt hle,Nat.le_refl _,rfl,(But.refl [] _).drewN q,fun h => by rw [unhide NY] at h; omega⟩
   go_wp2_with fail
   go_loopg [0,1] Y (fun k p1 p2 wr => Hid (GcdInv w X Y k p1 p2 wr))
   case atStart => exact A0
   case round =>
    clear A0
    obtain ⟨X',hs1,hs2,hYX,hXX,hg,hB,hP⟩:=unhide hrel
    have hl1:=wd_len_mono hXX
    have hl2:=wd_len_mono hYX
    have HI:=hide (And.intro hs1 (And.intro hs2 (And.intro hYX (And.intro hXX (And.intro hg (And.intro hB hP))))))
    rw [unhide NX] at hl1
    by_cases hk2 : 2 ≤ (wd 18446744073709551616 gk).length
    ·have HL:=hide (lessened_any w.heap.size _ _ X' gk wr (hP hk2) hk2 hYX (by omega) hB.size)
     obtain ⟨a1,d1,rfl,-,-⟩:=hs1
     obtain ⟨a2,d2,rfl,-,-⟩:=hs2
     clear hrel hg hB hP
     generalize (wd 18446744073709551616 X').length = m1 at *
     generalize (wd 18446744073709551616 gk).length = m2 at *
     go_wp2_with fail
     refine (unhide HL).mono ?_
     rintro e w5 ⟨v1,v2,X2,Y2,rfl,hp2,hle2,hlt2,hX2,hg2,l,hlo,hbl⟩
     have R : Hid (GcdInv w X Y Y2 v1 v2 w5):=⟨X2,hp2.s1,hp2.s2,hle2,by omega,by rw [hg2]; exact (unhide HI).2.2.2.2.1,(unhide HI).2.2.2.2.2.1.trans hbl (fun x hx => .inr (hlo x hx)),fun _ => hp2⟩
     clear hp2 hg2 hlo hbl
     go_wp2
     go_roundg Y2
     case measure => exact hlt2
     case rel => exact R
    ·rcases Nat.eq_zero_or_pos gk with hz | hz
     ·subst hz
      rw [Nat.gcd_zero_right] at hg
      rw [wd_zero] at hs2
      obtain ⟨a1,d1,rfl,-,-⟩:=id hs1
      obtain ⟨a2,d2,rfl,-,-⟩:=hs2
      have R:=hide (And.intro hs1 hB)
      have HG:=hide hg
      clear hrel hg hB hP hs1 hk2 HI hl2
      generalize (wd 18446744073709551616 X').length = m1 at *
      go_wp2
      go_ret
      exact ⟨_,rfl,by rw [← unhide HG]; exact (unhide R).1,(unhide R).2⟩
     ·have hkB : gk < 18446744073709551616:=by
       rcases Nat.lt_or_ge gk 18446744073709551616 with h | h
       ·exact h
       ·exact absurd (wd_len_two gk h) hk2
      rcases word_open hs2 hkB with ⟨rfl,-⟩ | ⟨-,b,off,c,rfl,hcell⟩
      ·omega
      have HBY:=hide (byWord_any _ X' gk wr hs1 (by omega) hz hkB)
      have hmB : X' % gk < 18446744073709551616:=Nat.lt_trans (Nat.mod_lt _ hz) hkB
      have GW:=hide (fun W => gcdWords_any gk (X' % gk) W hkB hmB)
      have hgB : Nat.gcd gk (X' % gk) < 18446744073709551616:=Nat.lt_of_le_of_lt (Nat.gcd_le_left _ hz) hkB
      have HG : Hid (Nat.gcd gk (X' % gk) = Nat.gcd X Y):=by show _ = _; rw [gcd_mod]; exact hg
      have HOF:=hide (fun W => natOf_any (Nat.gcd gk (X' % gk)) hgB W)
      obtain ⟨a1,d1,rfl,-,-⟩:=id hs1
      have HB:=hide hB
      clear hrel hg hB hP hs1 hs2 HI hl2
      generalize (wd 18446744073709551616 X').length = m1 at *
      go_wp2_with fail
      refine (unhide HBY).mono ?_
      rintro e w5 ⟨v5,rfl,-,hb5⟩
      have hc5:=hb5.cell_some hcell (by simp)
      have HB5:=hide hb5
      clear hb5 hcell
      go_wp2_with fail
      refine (unhide GW _).mono ?_
      rintro e w6 ⟨rfl,q6,rfl⟩
      go_wp2_with fail
      refine (unhide HOF _).mono ?_
      rintro e w7 ⟨v7,rfl,hv7,hb7,-⟩
      rw [unhide HG] at hv7
      have R:=hide (And.intro hv7 ((unhide HB).trans' ((unhide HB5).trans' (((But.refl [] _).drewN q6).trans' hb7))))
      clear hv7 hb7
      go_wp2
      go_ret
      exact ⟨v7,rfl,(unhide R).1,(unhide R).2⟩

set_option maxHeartbeats 4000000 in
set_option maxRecDepth 100000 in
theorem natGcd_any (vx vy : Value) (X Y : Nat) (w : World) (hx : Sl .u64 w vx (wd 18446744073709551616 X)) (hy : Sl .u64 w vy (wd 18446744073709551616 Y)) (hlx : (wd 18446744073709551616 X).length ≤ 1000000) (hly : (wd 18446744073709551616 Y).length ≤ 1000000) :
  Calls Tryz.prog 28 #[vx,vy] w fun e w' => ∃ v',e = .returned v'∧Sl .u64 w' v' (wd 18446744073709551616 (Nat.gcd X Y))∧But [] w w':=by
 have hcmp:=natCmp_any vx vy X Y w hx hy (by omega) (by omega)
 have HX:=hide hx
 have HY:=hide hy
 rcases cmpN_cases X Y with ⟨hlt,hc⟩ | ⟨heq,hc⟩ | ⟨hgt,hc⟩
 ·rw [hc] at hcmp
  rcases Nat.lt_or_ge 1 X with h1 | h1
  ·have:=natGcd_long vy vx Y X w hy hx hlt h1 hly vx vy (-1) hcmp (.inr ⟨rfl,rfl,rfl⟩)
   rw [Nat.gcd_comm] at this
   exact this
  ·have HC:=hide hcmp
   have HO:=hide (fun W (h : Sl .u64 W vx (wd 18446744073709551616 X)) => natOne_any vx X W h (by omega) true)
   rcases Nat.eq_zero_or_pos X with h0 | h0
   ·subst h0
    rw [Nat.gcd_zero_left]
    rw [wd_zero] at hx
    obtain ⟨a1,c1,rfl,-,-⟩:=hx
    obtain ⟨a2,c2,rfl,-,-⟩:=hy
    clear hcmp hc HO
    generalize (wd 18446744073709551616 Y).length = ny at *
    go_enter Tryz.func28,Tryz.ntmps28
    go_wp2_with fail
    refine (unhide HC).mono ?_
    rintro e w1 ⟨rfl,q,rfl⟩
    go_wp2
    go_ret
    exact ⟨_,rfl,unhide HY,(But.refl _ _).drewN q⟩
   ·have hX1 : X = 1:=by omega
    subst hX1
    rw [Nat.gcd_one_left]
    have hl1 : (wd 18446744073709551616 1).length = 1:=by rw [wd_word 1 (by omega) (by omega)]; rfl
    have HO1:=hide (fun W h => unhide HO W h (by show true = _; rfl))
    obtain ⟨a1,c1,rfl,-,-⟩:=hx
    obtain ⟨a2,c2,rfl,-,-⟩:=hy
    clear hcmp hc HO
    rw [hl1] at *
    generalize (wd 18446744073709551616 Y).length = ny at *
    clear hl1
    go_enter Tryz.func28,Tryz.ntmps28
    go_wp2_with fail
    refine (unhide HC).mono ?_
    rintro e w1 ⟨rfl,q,rfl⟩
    go_wp2_with fail
    refine (unhide HO1 _ (by exact unhide HX)).mono ?_
    rintro e w1 ⟨rfl,hw⟩
    obtain rfl:=hw.symm
    clear hw
    go_wp2
    go_ret
    exact ⟨_,rfl,unhide HX,(But.refl _ _).drewN q⟩
 ·rw [hc] at hcmp
  have HC:=hide hcmp
  subst heq
  rw [Nat.gcd_self]
  obtain ⟨a1,c1,rfl,-,-⟩:=hx
  obtain ⟨a2,c2,rfl,-,-⟩:=hy
  clear hcmp hc
  generalize (wd 18446744073709551616 X).length = nx at *
  go_enter Tryz.func28,Tryz.ntmps28
  go_wp2_with fail
  refine (unhide HC).mono ?_
  rintro e w1 ⟨rfl,q,rfl⟩
  go_wp2
  go_ret
  exact ⟨_,rfl,unhide HX,(But.refl _ _).drewN q⟩
 ·rw [hc] at hcmp
  rcases Nat.lt_or_ge 1 Y with h1 | h1
  ·exact natGcd_long vx vy X Y w hx hy hgt h1 hlx vx vy 1 hcmp (.inl ⟨rfl,rfl,rfl⟩)
  ·have HC:=hide hcmp
   have HO:=hide (fun W (h : Sl .u64 W vy (wd 18446744073709551616 Y)) => natOne_any vy Y W h (by omega) true)
   rcases Nat.eq_zero_or_pos Y with h0 | h0
   ·subst h0
    rw [Nat.gcd_zero_right]
    rw [wd_zero] at hy
    obtain ⟨a1,c1,rfl,-,-⟩:=hx
    obtain ⟨a2,c2,rfl,-,-⟩:=hy
    clear hcmp hc HO
    generalize (wd 18446744073709551616 X).length = nx at *
    go_enter Tryz.func28,Tryz.ntmps28
    go_wp2_with fail
    refine (unhide HC).mono ?_
    rintro e w1 ⟨rfl,q,rfl⟩
    go_wp2
    go_ret
    exact ⟨_,rfl,unhide HX,(But.refl _ _).drewN q⟩
   ·have hX1 : Y = 1:=by omega
    subst hX1
    rw [Nat.gcd_one_right]
    have hl1 : (wd 18446744073709551616 1).length = 1:=by rw [wd_word 1 (by omega) (by omega)]; rfl
    have HO1:=hide (fun W h => unhide HO W h (by show true = _; rfl))
    obtain ⟨a1,c1,rfl,-,-⟩:=hx
    obtain ⟨a2,c2,rfl,-,-⟩:=hy
    clear hcmp hc HO
    rw [hl1] at *
    generalize (wd 18446744073709551616 X).length = nx at *
    clear hl1
    go_enter Tryz.func28,Tryz.ntmps28
    go_wp2_with fail
    refine (unhide HC).mono ?_
    rintro e w1 ⟨rfl,q,rfl⟩
    go_wp2_with fail
    refine (unhide HO1 _ (by exact unhide HY)).mono ?_
    rintro e w1 ⟨rfl,hw⟩
    obtain rfl:=hw.symm
    clear hw
    go_wp2
    go_ret
    exact ⟨_,rfl,unhide HY,(But.refl _ _).drewN q⟩
end Go.Proofs.YtndcigdphgojpaaGreatDoor
