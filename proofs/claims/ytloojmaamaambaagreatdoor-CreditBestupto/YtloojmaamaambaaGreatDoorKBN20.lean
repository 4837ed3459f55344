/- Two numbers are lessened, as the Go text of package nat does it. -/
import Derived.Test.YtloojmaamaambaaGreatDoorKBN17a
import Derived.Test.YtloojmaamaambaaGreatDoorKBN17b
import Derived.Test.YtloojmaamaambaaGreatDoorKBN18
namespace Go.Proofs.YtloojmaamaambaaGreatDoor
open Go.RowKit

theorem two_top (X m : Nat) (h : (wd 18446744073709551616 X).length = m + 2) : X = vl 18446744073709551616 ((wd 18446744073709551616 X).take m) + 18446744073709551616 ^ m * ((wd 18446744073709551616 X)[m]?.getD 0 + 18446744073709551616 * (wd 18446744073709551616 X)[m + 1]?.getD 0):=by
 have e:=vl_split 18446744073709551616 (wd 18446744073709551616 X) m (by omega)
 rw [drop_one _ (m + 1) (by omega),vl_one,vl_wd (by omega)] at e
 exact e
theorem one_top (X m : Nat) (h : (wd 18446744073709551616 X).length = m + 1) : X = vl 18446744073709551616 ((wd 18446744073709551616 X).take m) + 18446744073709551616 ^ m * ((wd 18446744073709551616 X)[m]?.getD 0 + 18446744073709551616 * 0):=by
 have e:=vl_split 18446744073709551616 (wd 18446744073709551616 X) m (by omega)
 rw [List.drop_eq_nil_of_le (by omega),vl,vl_wd (by omega)] at e
 exact e
theorem top_sum (x1 x0 n : Nat) (hn : n ≤ 63) (hx0 : x0 < 18446744073709551616) (h : x1 * 2 ^ n < 18446744073709551616) : x1 * 2 ^ n + x0 / 2 ^ (64 - n) < 18446744073709551616:=by
 have hp : 18446744073709551616 = 2 ^ (64 - n) * 2 ^ n:=by rw [← Nat.pow_add,show (64 - n) + n = 64 from by omega]
 have h5 : (x1 + 1) * 2 ^ n ≤ 18446744073709551616:=by
  rw [hp] at h ⊢
  exact Nat.mul_le_mul_right _ (Nat.lt_of_mul_lt_mul_right h)
 rw [Nat.add_mul,Nat.one_mul] at h5
 have:=(sh_or x1 x0 n hn hx0).2
 generalize x0 / 2 ^ (64 - n) = z at *
 generalize x1 * 2 ^ n = y at *
 generalize 2 ^ n = P at *
 omega
theorem TakeInv.fin' {ps qs ps' qs' : List Nat} {c1 c2 c3 c4 n up dn lf rt bo ow : Nat} (h : TakeInv ps qs ps' qs' c1 c2 c3 c4 n up dn lf rt bo ow) (hn : ps.length = n) (hl : ps.length = qs.length) (P' Q' X Y hp hq : Nat)
  (eP : P' = vl 18446744073709551616 ps + 18446744073709551616 ^ n * hp) (eQ : Q' = vl 18446744073709551616 qs + 18446744073709551616 ^ n * hq) (eX : X + c2 * Q' = c1 * P') (eY : Y + c3 * P' = c4 * Q') (hX : X < 18446744073709551616 ^ n) (hY : Y < 18446744073709551616 ^ n) : vl 18446744073709551616 ps' = X∧vl 18446744073709551616 qs' = Y:=by
 subst hn
 exact h.fin hl P' Q' X Y hp hq eP eQ eX eY hX hY
theorem stepsOf_any (vx vy : Value) (X Y : Nat) (w : World) (hx : Sl .u64 w vx (wd 18446744073709551616 X)) (hy : Sl .u64 w vy (wd 18446744073709551616 Y)) (h2 : 2 ≤ (wd 18446744073709551616 Y).length) (hn : (wd 18446744073709551616 X).length < (wd 18446744073709551616 Y).length + 2) (hle : Y ≤ X) (hl : (wd 18446744073709551616 X).length < 268435456) :
  Calls Tryz.prog 169 #[vx,vy] w fun e w' => ∃ (xx xy yx yy : Nat) (back : Bool),e = .returned (.agg #[.int .u64 (xx : Int),.int .u64 (xy : Int),.int .u64 (yx : Int),.int .u64 (yy : Int),.bool back])∧xx < 18446744073709551616∧xy < 18446744073709551616∧yx < 18446744073709551616∧yy < 18446744073709551616∧StepsOK X Y xx xy yx yy back∧But [] w w':=by
 have hlen:=wd_len_mono hle
 rcases hx.open with ⟨e,-⟩ | ⟨-,b1,o1,c1,rfl,hc1,-,hcx⟩
 ·rw [e,List.length_nil] at hlen; omega
 rcases hy.open with ⟨e,-⟩ | ⟨-,b2,o2,c2,rfl,hc2,-,hcy⟩
 ·rw [e] at h2; simp at h2
 obtain ⟨m,hm⟩ : ∃ m,(wd 18446744073709551616 X).length = m + 2:=⟨(wd 18446744073709551616 X).length - 2,by omega⟩
 have hXp : 0 < X:=by
  rcases Nat.eq_zero_or_pos X with h | h
  ·subst h; rw [wd_zero] at hm; simp at hm
  ·exact h
 obtain ⟨t1,t2,-,-⟩:=top_pos X hXp
 have ht : topW X = (wd 18446744073709551616 X)[m + 1]?.getD 0:=by unfold topW; rw [hm]; rfl
 obtain ⟨z1,z2,-,-⟩:=lz_facts (topW X) t1 t2
 have eX:=two_top X m hm
 have lX:=vl_take_lt (wd 18446744073709551616 X) m (by omega) (wd_mem (by omega) X)
 have mX:=wd_mem (B:=18446744073709551616) (by omega) X
 have mY:=wd_mem (B:=18446744073709551616) (by omega) Y
 have k1:=hcx (m + 1) (by omega)
 have k0:=hcx m (by omega)
 have bx0:=mem_getD mX (by omega : 0 < 18446744073709551616) m
 rw [ht] at t1 t2 z1 z2
 obtain ⟨ε,e1,e2⟩:=lead_split ((wd 18446744073709551616 X)[m + 1]?.getD 0) ((wd 18446744073709551616 X)[m]?.getD 0) m (lz ((wd 18446744073709551616 X)[m + 1]?.getD 0)) _ z1 lX
 rw [← eX] at e1
 have haB:=top_sum _ _ _ z1 bx0 z2
 rcases Nat.lt_or_ge (wd 18446744073709551616 Y).length (m + 2) with hsh | hsh
 ·have hny : (wd 18446744073709551616 Y).length = m + 1:=by omega
  have eY:=one_top Y m hny
  have lY:=vl_take_lt (wd 18446744073709551616 Y) m (by omega) mY
  obtain ⟨δ,f1,f2⟩:=lead_split 0 ((wd 18446744073709551616 Y)[m]?.getD 0) m (lz ((wd 18446744073709551616 X)[m + 1]?.getD 0)) _ z1 lY
  rw [← eY] at f1
  rw [Nat.zero_mul] at f1
  have hda:=lead_le _ _ _ _ _ X Y e1 f1 e2 hle
  exact stepsOf_less b1 o1 c1 b2 o2 c2 _ _ w ((wd 18446744073709551616 X)[m + 1]?.getD 0) ((wd 18446744073709551616 X)[m]?.getD 0) 0 ((wd 18446744073709551616 Y)[m]?.getD 0) _ (0 + (wd 18446744073709551616 Y)[m]?.getD 0 / 2 ^ (64 - lz ((wd 18446744073709551616 X)[m + 1]?.getD 0))) (lz ((wd 18446744073709551616 X)[m + 1]?.getD 0)) m X Y hm hny (by omega) k1 k0 (fun h => by omega) (hcy m (by omega)) t1 t2 bx0 (by omega) (mem_getD mY (by omega) m) z1 (by show _ = _; rfl) (by show _ = _; rfl) (by show _ = _; rw [if_neg (by omega)]) z2 (fun h => by omega) haB (Nat.lt_of_le_of_lt hda haB) hda (fun a b xx xy yx yy back h => StepsOK.of h X Y _ ε δ e1 f1 e2 f2) hc1 hc2
 ·have hny : (wd 18446744073709551616 Y).length = m + 2:=by omega
  have eY:=two_top Y m hny
  have lY:=vl_take_lt (wd 18446744073709551616 Y) m (by omega) mY
  obtain ⟨δ,f1,f2⟩:=lead_split ((wd 18446744073709551616 Y)[m + 1]?.getD 0) ((wd 18446744073709551616 Y)[m]?.getD 0) m (lz ((wd 18446744073709551616 X)[m + 1]?.getD 0)) _ z1 lY
  rw [← eY] at f1
  have hda:=lead_le _ _ _ _ _ X Y e1 f1 e2 hle
  exact stepsOf_same b1 o1 c1 b2 o2 c2 _ _ w ((wd 18446744073709551616 X)[m + 1]?.getD 0) ((wd 18446744073709551616 X)[m]?.getD 0) ((wd 18446744073709551616 Y)[m + 1]?.getD 0) ((wd 18446744073709551616 Y)[m]?.getD 0) _ _ (lz ((wd 18446744073709551616 X)[m + 1]?.getD 0)) m X Y hm hny (by omega) k1 k0 (fun _ => hcy (m + 1) (by omega)) (hcy m (by omega)) t1 t2 bx0 (mem_getD mY (by omega) _) (mem_getD mY (by omega) m) z1 (by show _ = _; rfl) (by show _ = _; rfl) (by show _ = _; rw [if_pos hny]) z2 (fun _ => Nat.lt_of_le_of_lt (Nat.le_trans (Nat.le_add_right _ _) hda) haB) haB (Nat.lt_of_le_of_lt hda haB) hda (fun a b xx xy yx yy back h => StepsOK.of h X Y _ ε δ e1 f1 e2 f2) hc1 hc2

/-- what becomes of two numbers: lesser ones with the same divisors -/
def Less (lo : Nat) (w : World) (X Y : Nat) (e : Ending) (w' : World) : Prop:=∃ v1 v2 X' Y',e = .returned (.tuple #[v1,v2])∧Pair lo w' v1 v2 X' Y'∧Y' ≤ X'∧Y' < Y∧X' ≤ X∧Nat.gcd X' Y' = Nat.gcd X Y∧∃ l : List Nat,(∀ x ∈ l,lo ≤ x)∧But l w w'

theorem gcd_mod (X Y : Nat) : Nat.gcd Y (X % Y) = Nat.gcd X Y:=by rw [Nat.gcd_comm X Y,Nat.gcd_rec Y X,Nat.gcd_comm]

set_option maxHeartbeats 4000000 in
set_option maxRecDepth 100000 in
theorem taken_any (lo : Nat) (vx vy : Value) (X Y xx xy yx yy : Nat) (back : Bool) (w : World) (hp : Pair lo w vx vy X Y) (h2 : 2 ≤ (wd 18446744073709551616 Y).length) (hle : Y ≤ X) (hl : (wd 18446744073709551616 X).length < 1073741824) (hxx : xx < 18446744073709551616) (hxy : xy < 18446744073709551616) (hyx : yx < 18446744073709551616) (hyy : yy < 18446744073709551616) (hs : StepsOK X Y xx xy yx yy back) (hne : xy ≠ 0) :
  Calls Tryz.prog 170 #[.agg #[.int .u64 (xx : Int),.int .u64 (xy : Int),.int .u64 (yx : Int),.int .u64 (yy : Int),.bool back],vx,vy] w fun e w' => Less lo w X Y e w':=by
 have hlen:=wd_len_mono hle
 rcases hs with h0 | ⟨X',Y',hrel,hlt,hXY,hg⟩
 ·exact absurd h0 hne
 have mX:=wd_mem (B:=18446744073709551616) (by omega) X
 have mY:=wd_mem (B:=18446744073709551616) (by omega) Y
 rcases hp.s1.open with ⟨e,-⟩ | ⟨-,g1,o1,c1,rfl,hc1,-,-⟩
 ·rw [e,List.length_nil] at hlen; omega
 rcases hp.s2.open with ⟨e,-⟩ | ⟨-,g2,o2,c2,rfl,hc2,-,-⟩
 ·rw [e] at h2; simp at h2
 have hap : g1 ≠ g2:=hp.ap _ _ _ _ _ _ _ _ rfl rfl
 obtain ⟨l1,f1⟩:=hp.o1 _ _ _ _ rfl
 obtain ⟨l2,f2⟩:=hp.o2 _ _ _ _ rfl
 have s1:=hp.s1.seg f1
 have s2:=hp.s2.seg f2
 have sP:=s1.sub 0 (wd 18446744073709551616 Y).length (by omega)
 rw [List.drop_zero,Nat.add_zero] at sP
 have lP : ((wd 18446744073709551616 X).take (wd 18446744073709551616 Y).length).length = (wd 18446744073709551616 Y).length:=by rw [List.length_take]; omega
 have eP:=vl_drop_div (wd 18446744073709551616 X) (wd 18446744073709551616 Y).length hlen
 rw [vl_wd (by omega)] at eP
 have eQ : Y = vl 18446744073709551616 (wd 18446744073709551616 Y) + 18446744073709551616 ^ (wd 18446744073709551616 Y).length * 0:=by rw [vl_wd (by omega)]; omega
 have hYl:=lt_wd Y
 have mP : ∀ x ∈ (wd 18446744073709551616 X).take (wd 18446744073709551616 Y).length,x < 18446744073709551616:=fun x hx => mX x (List.mem_of_mem_take hx)
 cases back
 ·simp only [Bool.false_eq_true,if_false] at hrel
  refine (taken_fwd g1 o1 c1 g2 o2 c2 _ _ ((wd 18446744073709551616 X).take (wd 18446744073709551616 Y).length) (wd 18446744073709551616 Y) w xx xy yx yy hxx hxy hyx hyy hap sP s2 lP rfl (by omega) hlen hc1 hc2 hl mP mY X' Y' (fun ps' qs' u d l r b o h => ?_)).mono ?_
  ·exact h.fin' lP lP X Y X' Y' _ 0 eP eQ hrel.1 hrel.2 (by omega) (by omega)
  ·rintro e w' ⟨v1,v2,rfl,h1,h2',hb,ho1,ho2⟩
   exact ⟨v1,v2,X',Y',rfl,⟨h1,h2',ho1.own l1,ho2.own l2,fun b off n c b' off' n' c' e1 e2 => by rw [(ho1 _ _ _ _ e1).1,(ho2 _ _ _ _ e2).1]; exact hap⟩,by omega,by omega,by omega,hg,[g1,g2],fun x hx => by simp at hx; rcases hx with rfl | rfl <;> assumption,hb⟩
 ·simp only [if_true] at hrel
  refine (taken_back g1 o1 c1 g2 o2 c2 _ _ (wd 18446744073709551616 Y) ((wd 18446744073709551616 X).take (wd 18446744073709551616 Y).length) w xx xy yx yy hxx hxy hyx hyy hap sP s2 rfl lP (by omega) hlen hc1 hc2 hl mY mP X' Y' (fun ps' qs' u d l r b o h => ?_)).mono ?_
  ·exact h.fin' rfl lP.symm Y X X' Y' 0 _ eQ eP hrel.1 hrel.2 (by omega) (by omega)
  ·rintro e w' ⟨v1,v2,rfl,h1,h2',hb,ho1,ho2⟩
   exact ⟨v1,v2,X',Y',rfl,⟨h1,h2',ho1.own l2,ho2.own l1,fun b off n c b' off' n' c' e1 e2 => by rw [(ho1 _ _ _ _ e1).1,(ho2 _ _ _ _ e2).1]; exact hap.symm⟩,by omega,by omega,by omega,hg,[g1,g2],fun x hx => by simp at hx; rcases hx with rfl | rfl <;> assumption,hb⟩
end Go.Proofs.YtloojmaamaambaaGreatDoor
