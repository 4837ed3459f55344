/- A long number divided by a shorter one, part by part from the top, as the Go text of package nat does it. -/
import Derived.Test.YtjbboicccddhbaaGreatDoorKPN31
namespace Go.Proofs.YtjbboicccddhbaaGreatDoor
open Go.RowKit

theorem vl_put (rs qs : List Nat) (i : Nat) (hl : i + qs.length ≤ rs.length) (hz : ∀ j,i ≤ j→j < i + qs.length→rs[j]?.getD 0 = 0) : vl 18446744073709551616 (rs.take i ++ qs ++ rs.drop (i + qs.length)) = vl 18446744073709551616 rs + 18446744073709551616 ^ i * vl 18446744073709551616 qs:=by
 have hti : (rs.take i).length = i:=by rw [List.length_take]; omega
 have hmid : ((rs.drop i).take qs.length).length = qs.length:=by rw [List.length_take,List.length_drop]; omega
 have hz0 : vl 18446744073709551616 ((rs.drop i).take qs.length) = 0:=vl_zeros 18446744073709551616 _ (fun j hj => by
  rw [hmid] at hj
  rw [List.getElem?_take_of_lt hj,List.getElem?_drop]
  exact hz (i + j) (by omega) (by omega))
 have e : rs = rs.take i ++ (rs.drop i).take qs.length ++ rs.drop (i + qs.length):=by
  rw [List.append_assoc,← List.drop_drop,List.take_append_drop,List.take_append_drop]
 have h2:=congrArg (vl 18446744073709551616) e
 rw [vl_append,vl_append,List.length_append,hti,hmid,hz0] at h2
 rw [vl_append,vl_append,List.length_append,hti]
 omega

/-- what is known of the quotient's words where the words from top on are found -/
structure PartsInv (X Y nx top : Nat) (rs : List Nat) : Prop where
 len : rs.length = nx
 mem : ∀ x ∈ rs,x < 18446744073709551616
 zero : ∀ j,j < top→rs[j]?.getD 0 = 0
 val : vl 18446744073709551616 rs = 18446744073709551616 ^ top * (X / 18446744073709551616 ^ top / Y)
theorem PartsInv.start (X Y nx top : Nat) (h : nx ≤ top) (hX : X < 18446744073709551616 ^ nx) : PartsInv X Y nx top (List.replicate nx 0):=by
 refine ⟨by simp,fun x hx => by rw [List.mem_replicate] at hx; omega,fun j _ => by rw [List.getElem?_replicate]; split <;> rfl,?_⟩
 have h1 : X / 18446744073709551616 ^ top = 0:=Nat.div_eq_of_lt (Nat.lt_of_lt_of_le hX (Nat.pow_le_pow_right (by omega) h))
 rw [vl_replicate,h1,Nat.zero_div,Nat.mul_zero]
/-- a part more -/
theorem part_more (X Y i n : Nat) (hY0 : 0 < Y) (hY : Y < 18446744073709551616 ^ n) (D : Nat) (hD : D = X / 18446744073709551616 ^ (i + n) % Y * 18446744073709551616 ^ n + X / 18446744073709551616 ^ i % 18446744073709551616 ^ n) :
  X / 18446744073709551616 ^ i / Y = X / 18446744073709551616 ^ (i + n) / Y * 18446744073709551616 ^ n + D / Y∧X / 18446744073709551616 ^ i % Y = D % Y∧D / Y < 18446744073709551616 ^ n∧D / Y ≤ X / 18446744073709551616 ^ i∧D < 18446744073709551616 ^ (n + n):=by
 have hP : 0 < 18446744073709551616 ^ n:=Nat.pow_pos (by omega)
 have e1 : X / 18446744073709551616 ^ (i + n) = X / 18446744073709551616 ^ i / 18446744073709551616 ^ n:=by rw [Nat.pow_add,Nat.div_div_eq_div_mul]
 rw [e1] at hD ⊢
 generalize X / 18446744073709551616 ^ i = A at *
 have hr:=Nat.mod_lt (A / 18446744073709551616 ^ n) hY0
 have hp:=Nat.mod_lt A hP
 obtain ⟨f1,f2⟩:=halves A Y (18446744073709551616 ^ n) (A / 18446744073709551616 ^ n / Y) (A / 18446744073709551616 ^ n % Y) (D / Y) (D % Y) (by rw [Nat.mul_comm]; exact (Nat.div_add_mod _ _).symm) (by rw [← hD,Nat.mul_comm (D / Y)]; exact (Nat.div_add_mod _ _).symm) (Nat.mod_lt _ hY0)
 have hDl : D < Y * 18446744073709551616 ^ n:=by
  have h1 : (A / 18446744073709551616 ^ n % Y + 1) * 18446744073709551616 ^ n ≤ Y * 18446744073709551616 ^ n:=Nat.mul_le_mul_right _ hr
  rw [Nat.succ_mul] at h1
  omega
 refine ⟨f1,f2,Nat.div_lt_of_lt_mul hDl,?_,?_⟩
 ·have : A / Y ≤ A:=Nat.div_le_self _ _
  omega
 ·rw [Nat.pow_add]
  exact Nat.lt_of_lt_of_le hDl (Nat.mul_le_mul_right _ (Nat.le_of_lt hY))
theorem PartsInv.step {X Y nx i n : Nat} {rs : List Nat} (h : PartsInv X Y nx (i + n) rs) (hY0 : 0 < Y) (hY : Y < 18446744073709551616 ^ n) (D : Nat) (hD : D = X / 18446744073709551616 ^ (i + n) % Y * 18446744073709551616 ^ n + X / 18446744073709551616 ^ i % 18446744073709551616 ^ n) (hl : i + (wd 18446744073709551616 (D / Y)).length ≤ nx) :
  PartsInv X Y nx i (rs.take i ++ wd 18446744073709551616 (D / Y) ++ rs.drop (i + (wd 18446744073709551616 (D / Y)).length)):=by
 obtain ⟨f1,-,f3,-,-⟩:=part_more X Y i n hY0 hY D hD
 have hq : (wd 18446744073709551616 (D / Y)).length ≤ n:=wd_length_le (by omega) _ _ f3
 have hlen:=h.len
 have hti : (rs.take i).length = i:=by rw [List.length_take]; omega
 refine ⟨?_,?_,?_,?_⟩
 ·rw [List.length_append,List.length_append,hti,List.length_drop]; omega
 ·intro x hx
  rw [List.mem_append,List.mem_append] at hx
  rcases hx with (hx | hx) | hx
  ·exact h.mem x (List.mem_of_mem_take hx)
  ·exact wd_mem (by omega) _ x hx
  ·exact h.mem x (List.mem_of_mem_drop hx)
 ·intro j hj
  rw [List.append_assoc,List.getElem?_append_left (by rw [hti]; exact hj),List.getElem?_take_of_lt hj]
  exact h.zero j (by omega)
 ·rw [vl_put rs _ i (by omega) (fun j _ hj => h.zero j (by omega)),h.val,vl_wd (by omega),f1,Nat.pow_add,Nat.mul_add]
  congr 1
  rw [Nat.mul_assoc,Nat.mul_comm (18446744073709551616 ^ n)]

theorem Heir.over {w w1 w2 : World} {vx v1 : Value} {xs : List Nat} {g : Nat} (h : Heir w vx w1 v1) (hs : Sl .u64 w1 v1 xs) (hb : But [g] w1 w2) (ho : Off g v1) : Heir w vx w2 v1:=fun b off n c e => by
 rcases h b off n c e with ⟨h1,h2⟩ | h1
 ·refine .inl ⟨h1,fun i hi => ?_⟩
  have hn:=hs.len_eq e
  have hl:=hs.lt (by omega) b off n c e
  rw [hb.frozen (p:=⟨b,off + i,none⟩) hl (by have:=ho b off n c e; simpa using this)]
  exact h2 i hi
 ·exact .inr h1
theorem Heir.off {w w1 : World} {vx v1 : Value} {g : Nat} (h : Heir w vx w1 v1) (hg : g < w.heap.size) (hx : Off g vx) : Off g v1:=fun b off n c e => by
 rcases h b off n c e with ⟨h1,-⟩ | ⟨o0,n0,c0,e0,-,-⟩
 ·omega
 ·exact hx _ _ _ _ e0

theorem seg_put {w : World} {g nx i : Nat} {rs qs : List Nat} {vq : Value} (hs : Seg w g 0 rs) (hl : rs.length = nx) (hq : Sl .u64 w vq qs) (hi : i + qs.length ≤ nx) : ∃ w',(∀ ty,(Builtin.copy_ #[95,96] ty #[.slice (some ⟨g,i,none⟩) (nx - i) (nx - i),vq]).run Tryz.prog w = .ok (goInt qs.length) w')∧Hid (Seg w' g 0 (rs.take i ++ qs ++ rs.drop (i + qs.length))∧But [g] w w'):=by
 have S2:=hs.sub i (nx - i) (by omega)
 have hsl : ((rs.drop i).take (nx - i)).length = nx - i:=by rw [List.length_take,List.length_drop,hl]; omega
 obtain ⟨w3,hcp,HC⟩:=run_copy_seg (P:=Tryz.prog) w 95 96 24 Tryz.underlying95 size_u64 g (0 + i) (nx - i) (nx - i) vq ((rs.drop i).take (nx - i)) qs S2 hsl.symm hq (by rw [hsl]; omega)
 have S7:=(unhide HC).1.sub 0 qs.length (by rw [List.length_append]; omega)
 rw [List.drop_zero,List.take_left,Nat.add_zero] at S7
 have SW:=hs.whole (unhide HC).2 S7 rfl (by omega)
 rw [Nat.zero_add] at SW hcp
 exact ⟨w3,hcp,SW,(unhide HC).2.but⟩

/-- what holds ahead of a round -/
def PartsAt (W : World) (vx : Value) (X Y nx n g k : Nat) (vr vi : Value) (wr : World) : Prop :=
 ∃ (z : Int) (rs : List Nat),vi = .int .i64 z∧z = (k : Int) - (n : Int)∧PartsInv X Y nx k rs∧Seg wr g 0 rs∧Sl .u64 wr vr (wd 18446744073709551616 (X / 18446744073709551616 ^ k % Y))∧Heir W vx wr vr∧But [g] W wr∧k < nx + n∧n ∣ k

set_option maxHeartbeats 8000000 in
set_option maxRecDepth 100000 in
theorem divideParts_any (vx vy : Value) (X Y : Nat) (w : World) (hx : Sl .u64 w vx (wd 18446744073709551616 X)) (hy : Sl .u64 w vy (wd 18446744073709551616 Y)) (hY : 0 < Y) (hX : 0 < X) (hD : ∀ D,(wd 18446744073709551616 D).length ≤ (wd 18446744073709551616 Y).length + (wd 18446744073709551616 Y).length→DivideW D Y) (hl : (wd 18446744073709551616 X).length + (wd 18446744073709551616 Y).length < 4194304) :
  Calls Tryz.prog 194 #[vx,vy] w fun e w' => ∃ v1 v2,e = .returned (.tuple #[v1,v2])∧Sl .u64 w' v1 (wd 18446744073709551616 (X / Y))∧Sl .u64 w' v2 (wd 18446744073709551616 (X % Y))∧But [] w w'∧Heir w vx w' v2:=by
 have hnp : 0 < (wd 18446744073709551616 Y).length:=by rw [Nat.pos_iff_ne_zero]; intro e; rw [wd_len_zero (by omega)] at e; omega
 have hxp : 0 < (wd 18446744073709551616 X).length:=by rw [Nat.pos_iff_ne_zero]; intro e; rw [wd_len_zero (by omega)] at e; omega
 obtain ⟨nx,hnx⟩ : ∃ nx,nx = (wd 18446744073709551616 X).length:=⟨_,rfl⟩
 obtain ⟨n,hn⟩ : ∃ n,n = (wd 18446744073709551616 Y).length:=⟨_,rfl⟩
 have hYP : Y < 18446744073709551616 ^ n:=by rw [hn]; exact lt_wd Y
 have hXP : X < 18446744073709551616 ^ nx:=by rw [hnx]; exact lt_wd X
 have offx : Off w.heap.size vx:=off_fresh hx hxp _ (Nat.le_refl _)
 have offy : Off w.heap.size vy:=off_fresh hy hnp _ (Nat.le_refl _)
 rw [← hnx,← hn] at hl
 rw [← hnx] at hxp
 rw [← hn] at hnp hD
 have bM:=but_made w nx 24
 have SM:=Seg.made w nx 24
 obtain ⟨d,hd⟩ : ∃ d,d = (nx - 1) / n:=⟨_,rfl⟩
 obtain ⟨z0,hz0⟩ : ∃ z0,z0 = d * n:=⟨_,rfl⟩
 have hz1 : z0 ≤ nx - 1:=by rw [hz0,hd]; exact Nat.div_mul_le_self _ _
 have hz2 : nx ≤ z0 + n:=by
  have h1:=Nat.div_add_mod (nx - 1) n
  have h2:=Nat.mod_lt (nx - 1) hnp
  rw [← hd,Nat.mul_comm,← hz0] at h1
  omega
 have hdl : d ≤ nx:=by rw [hd]; exact Nat.le_trans (Nat.div_le_self _ _) (Nat.sub_le _ _)
 have hmk:=fun wx => run_make64 wx nx (by omega)
 obtain ⟨W,hW⟩ : ∃ W,W = w.alloc (.cells (madeCells #[.int .u64 0] nx) 24):=⟨_,rfl⟩
 have hgW : w.heap.size < W.heap.size:=by rw [hW]; simp
 rw [← hW] at bM SM
 have A0 : Hid (PartsAt W vx X Y nx n w.heap.size (z0 + n) (.slice none 0 0) (.int .i64 (z0 : Int)) W):=by
  refine ⟨(z0 : Int),_,rfl,by omega,PartsInv.start X Y nx (z0 + n) hz2 hXP,SM,?_,Heir.nil _ _ _ _ _,But.refl _ _,by omega,?_⟩
  ·rw [Nat.div_eq_of_lt (Nat.lt_of_lt_of_le hXP (Nat.pow_le_pow_right (by omega) hz2)),Nat.zero_mod,wd_zero]
   exact Sl.nil _ _
  ·rw [hz0]; exact ⟨d + 1,by rw [Nat.mul_comm,Nat.mul_succ]⟩
 have SX:=hide (hx.but_nil bM)
 have SY:=hide (hy.but_nil bM)
 have OX:=hide offx
 have OY:=hide offy
 have BM:=hide bM
 have GW:=hide hgW
 have HD:=hide hD
 have HYP:=hide (And.intro hY hYP)
 have e1 : ((nx : Int) - 1) / (n : Int) = (d : Int):=by rw [hd,Int.natCast_ediv,Int.natCast_sub hxp]; rfl
 have e2 : (d : Int) * (n : Int) = (z0 : Int):=by rw [hz0,Int.natCast_mul]
 have e3 : wrap64 (d : Int) = (d : Int):=by unfold wrap64; omega
 have e4 : wrap64 (z0 : Int) = (z0 : Int):=by unfold wrap64; omega
 have n0 : ((n : Int) == 0) = false:=beq_eq_false_iff_ne.2 (by omega)
 have HW:=hide hW
 obtain ⟨a1,c1,rfl,-,-⟩:=hx
 obtain ⟨a2,c2,rfl,-,-⟩:=hy
 rw [← hnx] at A0 SX OX
 rw [← hn] at SY OY
 rw [← hnx,← hn]
 have NX:=hide hnx.symm
 clear hnx hn hD hX offx offy bM SM hd hz0 hW hYP hXP hY hgW
 go_enter Tryz.func194,Tryz.ntmps194
 go_wp2_with fail
 rw [← unhide HW]
 go_loopg [9,10] (z0 + n) (fun k vr vi wr => Hid (PartsAt W (.slice a1 nx c1) X Y nx n w.heap.size k vr vi wr))
 case atStart => exact A0
 case round =>
  clear A0 e1 e2 e3 e4
  obtain ⟨z,rs,rfl,hz,hI,hS,hR,hH,hB,hk,hdv⟩:=unhide hrel
  clear hrel
  obtain ⟨hY,hYP⟩:=unhide HYP
  have hlen:=hI.len
  by_cases hz0 : z < 0
  ·have hgk : gk = 0:=Nat.eq_zero_of_dvd_of_lt hdv (by omega)
   subst hgk
   have hv : vl 18446744073709551616 rs = X / Y:=by rw [hI.val,Nat.pow_zero,Nat.one_mul,Nat.div_one]
   rw [Nat.pow_zero,Nat.div_one] at hR
   have TR:=hide (trimmed_any (.slice (some ⟨w.heap.size,0,none⟩) nx nx) rs wr (by have:=hS.sl nx (by omega); rw [hlen] at this; exact this) hI.mem (by omega))
   rw [hv] at TR
   have FIN:=hide (And.intro hR (And.intro ((unhide BM).trans hB (fun x hx => by simp at hx; subst hx; exact .inr (Nat.le_refl _))) (hH.pre (unhide BM).size)))
   clear hI hS hR hH hB hdv hlen hv hY hYP hz
   go_wp2_with fail
   refine (unhide TR).mono ?_
   rintro e1 w1 ⟨v1,rfl,hv1,hw,-⟩
   obtain rfl:=hw.symm
   clear hw
   have HV1:=hide hv1
   clear hv1 TR
   go_wp2
   go_ret2
   exact ⟨_,_,rfl,unhide HV1,(unhide FIN).1,(unhide FIN).2.1,(unhide FIN).2.2⟩
  ·obtain ⟨i,rfl⟩ : ∃ i : Nat,z = (i : Int):=⟨z.toNat,by omega⟩
   have hki : gk = i + n:=by omega
   subst hki
   obtain ⟨D,hDD⟩ : ∃ D,D = X / 18446744073709551616 ^ (i + n) % Y * 18446744073709551616 ^ n + X / 18446744073709551616 ^ i % 18446744073709551616 ^ n:=⟨_,rfl⟩
   obtain ⟨f1,f2,f3,f4,f5⟩:=part_more X Y i n hY hYP D hDD
   have hq1 : (wd 18446744073709551616 (D / Y)).length ≤ nx - i:=by
    have h1:=wd_len_mono f4
    have h2:=wd_len_div i X
    rw [unhide NX] at h2
    omega
   have hrl : (wd 18446744073709551616 (X / 18446744073709551616 ^ (i + n) % Y)).length ≤ n:=wd_length_le (by omega) _ _ (Nat.lt_trans (Nat.mod_lt _ hY) hYP)
   have hdl : (wd 18446744073709551616 D).length ≤ n + n:=wd_length_le (by omega) _ _ f5
   have hxl:=wd_len_div i X
   rw [unhide NX] at hxl
   have sx:=(unhide SX).but hB (fun b off cap m e => by have:=unhide OX b off m cap e; simpa using this)
   have sy:=(unhide SY).but hB (fun b off cap m e => by have:=unhide OY b off m cap e; simpa using this)
   have HI:=hide (natHigh_at _ X i wr sx (by omega))
   have LO:=hide (fun v1 (h : Sl .u64 wr v1 (wd 18446744073709551616 (X / 18446744073709551616 ^ i))) => natLow_at v1 _ n wr h (by omega) (by omega))
   have AB : Hid (∀ v2,Sl .u64 wr v2 (wd 18446744073709551616 (X / 18446744073709551616 ^ i % 18446744073709551616 ^ n))→Calls Tryz.prog 213 #[u9,.int .i64 (n : Int),v2] wr fun e w' => ∃ v',e = .returned v'∧Sl .u64 w' v' (wd 18446744073709551616 D)∧But [] wr w'∧(v' = v2 ∨ Own wr.heap.size w' v')):=fun v2 h => by
    rw [hDD]
    exact (natAbove_any u9 v2 _ _ n wr hR h (Nat.mod_lt _ (Nat.pow_pos (by omega))) (by omega)).mono fun e w' ⟨v',he,hv,hb,hp⟩ => ⟨v',he,hv,hb,hp.elim (fun h => .inl h.2) .inr⟩
   have DV:=hide (unhide HD D hdl)
   unfold DivideW at DV
   rw [← f2] at DV
   have STEP:=hide (hI.step hY hYP D hDD (by omega))
   have KEEP:=hide (And.intro hS (And.intro hB (And.intro hlen (And.intro sx sy))))
   have HQ:=hide hq1
   have HDV:=hide hdv
   have i1 : (0 : Int) ≤ (i : Int):=by omega
   have i2 : (i : Int) < (nx : Int):=by omega
   have i3 : i < nx:=by omega
   obtain ⟨ar,cr,rfl,-,-⟩:=hR
   generalize (wd 18446744073709551616 (X / 18446744073709551616 ^ (i + n) % Y)).length = lr at *
   clear hI hS hH hB hdv hlen hY hYP hz hDD f1 f2 f3 f4 f5 hq1 hrl hdl hxl sx sy hz0
   go_wp2_with fail
   refine (unhide HI).mono ?_
   rintro e1 w1 ⟨v1,rfl,hv1,hw,he1⟩
   obtain rfl:=hw.symm
   clear hw
   have HV1:=hide hv1
   have HE1:=hide he1
   clear hv1 he1 HI
   go_wp2_with fail
   refine (unhide LO _ (unhide HV1)).mono ?_
   rintro e2 w2 ⟨v2,rfl,hv2,hw,he2⟩
   obtain rfl:=hw.symm
   clear hw
   have HV2:=hide hv2
   have HE2:=hide ((unhide HE1).trans (unhide HV1) (But.refl _ _) (Nat.le_refl _) he2)
   clear hv2 he2 LO HE1 HV1
   go_wp2_with fail
   refine (unhide AB _ (unhide HV2)).mono ?_
   rintro e3 w3 ⟨v3,rfl,hv3,hb3,hp3⟩
   have HV3:=hide hv3
   have B3:=hide hb3
   have HE3 : Hid (Heir wr (.slice a1 nx c1) w3 v3):=by
    rcases hp3 with rfl | ho
    ·exact (unhide HE2).but (unhide HV2) hb3
    ·exact Heir.of_own ho
   clear hv3 hb3 hp3 AB HE2 HV2
   go_wp2_with fail
   refine (unhide DV _ _ _ (unhide HV3) ((unhide KEEP).2.2.2.2.but_nil (unhide B3))).mono ?_
   rintro e4 w4 ⟨v4,v5,rfl,hv4,hv5,hb4,he4⟩
   have b4:=(unhide B3).trans' hb4
   have he5:=((unhide HE3).trans (unhide HV3) hb4 (unhide B3).size he4).pre (unhide KEEP).2.1.size
   have off5:=he5.off (unhide GW) (unhide OX)
   obtain ⟨w5,hcp,HC⟩:=seg_put (i:=i) (nx:=nx) ((unhide KEEP).1.but_nil b4) (unhide KEEP).2.2.1 hv4 (by have:=unhide HQ; omega)
   have s5:=hv5.but (unhide HC).2 (fun b off cap m e => by have:=off5 b off m cap e; simpa using this)
   have R : Hid (PartsAt W (.slice a1 nx c1) X Y nx n w.heap.size i v5 (.int .i64 ((i : Int) - (n : Int))) w5) :=
    ⟨_,_,rfl,rfl,unhide STEP,(unhide HC).1,s5,he5.over hv5 (unhide HC).2 off5,((unhide KEEP).2.1.trans (But.of_nil b4) (fun x hx => .inl hx)).trans (unhide HC).2 (fun x hx => .inl hx),by omega,(Nat.dvd_add_iff_left (Nat.dvd_refl n)).2 (unhide HDV)⟩
   obtain ⟨a4,c4,rfl,-,-⟩:=hv4
   clear hv5 hb4 he4 b4 he5 off5 HC s5 HE3 HV3 B3 DV KEEP STEP HDV
   generalize (wd 18446744073709551616 (D / Y)).length = lq at *
   go_wp2
   go_roundg i
   case measure => omega
   case rel => exact unhide R
end Go.Proofs.YtjbboicccddhbaaGreatDoor

namespace Go.Proofs.YtjbboicccddhbaaGreatDoor
open Go.RowKit

set_option maxHeartbeats 2000000 in
set_option maxRecDepth 100000 in
theorem divide_less (X Y : Nat) (hlt : X < Y) (hl : (wd 18446744073709551616 Y).length < 268435456) : DivideW X Y:=by
 intro vx vy w hx hy
 have hlen:=wd_len_mono (Nat.le_of_lt hlt)
 have hcmp:=natCmp_any vx vy X Y w hx hy (by omega) (by omega)
 rw [cmpN_lt hlt] at hcmp
 rw [Nat.div_eq_of_lt hlt,Nat.mod_eq_of_lt hlt,wd_zero]
 have HC:=hide hcmp
 have HX:=hide hx
 obtain ⟨a1,c1,rfl,-,-⟩:=hx
 obtain ⟨a2,c2,rfl,-,-⟩:=hy
 clear hcmp
 generalize (wd 18446744073709551616 X).length = nx at *
 generalize (wd 18446744073709551616 Y).length = ny at *
 go_enter Tryz.func153,Tryz.ntmps153
 go_wp2_with fail
 refine (unhide HC).mono ?_
 rintro e w1 ⟨rfl,q,rfl⟩
 go_wp2
 go_ret2
 exact ⟨_,_,rfl,Sl.nil _ _,unhide HX,(But.refl _ _).drewN q,Heir.self _ _ _⟩

set_option maxHeartbeats 2000000 in
set_option maxRecDepth 100000 in
theorem divide_parts (X Y : Nat) (hle : Y ≤ X) (h80 : 80 ≤ (wd 18446744073709551616 Y).length) (hp : (wd 18446744073709551616 Y).length + (wd 18446744073709551616 Y).length < (wd 18446744073709551616 X).length) (hl : (wd 18446744073709551616 X).length + (wd 18446744073709551616 Y).length < 4194304) (hD : ∀ D,(wd 18446744073709551616 D).length ≤ (wd 18446744073709551616 Y).length + (wd 18446744073709551616 Y).length→DivideW D Y) : DivideW X Y:=by
 intro vx vy w hx hy
 have hY : 0 < Y:=by
  rcases Nat.eq_zero_or_pos Y with h | h
  ·subst h; rw [wd_zero] at h80; simp at h80
  ·exact h
 have hcmp:=natCmp_any vx vy X Y w hx hy (by omega) (by omega)
 have hc0:=cmpN_ge hle
 generalize cmpN X Y = r at *
 have HC:=hide hcmp
 have LD:=hide (fun (W : World) (h1 : Sl .u64 W vx (wd 18446744073709551616 X)) (h3 : Sl .u64 W vy (wd 18446744073709551616 Y)) => divideParts_any vx vy X Y W h1 h3 hY (by omega) hD hl)
 have HX:=hide hx
 have HY:=hide hy
 obtain ⟨a1,c1,rfl,-,-⟩:=hx
 obtain ⟨a2,c2,rfl,-,-⟩:=hy
 clear hcmp hD
 generalize (wd 18446744073709551616 X).length = nx at *
 generalize (wd 18446744073709551616 Y).length = ny at *
 have hr : decide (r < 0) = false:=by simp; omega
 go_enter Tryz.func153,Tryz.ntmps153
 go_wp2_with fail
 refine (unhide HC).mono ?_
 rintro e w1 ⟨rfl,q,rfl⟩
 go_wp2_with fail
 refine (unhide LD _ (by exact unhide HX) (by exact unhide HY)).mono ?_
 rintro e w2 ⟨v1,v2,rfl,h1,h3,h4,h5⟩
 have ALL:=hide (And.intro h1 (And.intro h3 (And.intro (((But.refl [] _).drewN q).trans' h4) (h5.pre (w:=w) (Nat.le_refl _)))))
 clear h1 h3 h4 h5 LD HC
 go_wp2
 go_ret2
 exact ⟨v1,v2,rfl,(unhide ALL).1,(unhide ALL).2.1,(unhide ALL).2.2.1,(unhide ALL).2.2.2⟩

set_option maxHeartbeats 2000000 in
set_option maxRecDepth 100000 in
theorem divide_halves (X Y n : Nat) (hle : Y ≤ X) (h80 : 80 ≤ (wd 18446744073709551616 Y).length) (hm : (wd 18446744073709551616 Y).length + 80 ≤ (wd 18446744073709551616 X).length) (hp : (wd 18446744073709551616 X).length ≤ (wd 18446744073709551616 Y).length + (wd 18446744073709551616 Y).length) (hn : n = ((wd 18446744073709551616 X).length - (wd 18446744073709551616 Y).length) / 2) (hl : (wd 18446744073709551616 X).length + (wd 18446744073709551616 Y).length + n < 8388608) (hD1 : DivideW (X / 18446744073709551616 ^ n / 18446744073709551616 ^ n) (Y / 18446744073709551616 ^ n)) (hD2 : DivideW (X / 18446744073709551616 ^ n % Y) (Y / 18446744073709551616 ^ n)) : DivideW X Y:=by
 intro vx vy w hx hy
 have hYn : 0 < Y / 18446744073709551616 ^ n:=by
  have:=wd_len_div n Y
  rcases Nat.eq_zero_or_pos (Y / 18446744073709551616 ^ n) with h | h
  ·rw [h,wd_zero,List.length_nil] at this; omega
  ·exact h
 have hcmp:=natCmp_any vx vy X Y w hx hy (by omega) (by omega)
 have hc0:=cmpN_ge hle
 generalize cmpN X Y = r at *
 have HC:=hide hcmp
 have LD:=hide (fun (W : World) (h1 : Sl .u64 W vx (wd 18446744073709551616 X)) (h3 : Sl .u64 W vy (wd 18446744073709551616 Y)) => divideHalves_any vx vy X Y n W h1 h3 hYn hD1 hD2 hl)
 have HX:=hide hx
 have HY:=hide hy
 obtain ⟨a1,c1,rfl,-,-⟩:=hx
 obtain ⟨a2,c2,rfl,-,-⟩:=hy
 clear hcmp hD1 hD2 hYn
 generalize (wd 18446744073709551616 X).length = nx at *
 generalize (wd 18446744073709551616 Y).length = ny at *
 have hr : decide (r < 0) = false:=by simp; omega
 have e1 : ((nx : Int) - (ny : Int)) / 2 = (n : Int):=by omega
 clear hn
 go_enter Tryz.func153,Tryz.ntmps153
 go_wp2_with fail
 refine (unhide HC).mono ?_
 rintro e w1 ⟨rfl,q,rfl⟩
 go_wp2_with fail
 refine (unhide LD _ (by exact unhide HX) (by exact unhide HY)).mono ?_
 rintro e w2 ⟨v1,v2,rfl,h1,h3,h4,h5⟩
 have ALL:=hide (And.intro h1 (And.intro h3 (And.intro (((But.refl [] _).drewN q).trans' h4) (h5.pre (w:=w) (Nat.le_refl _)))))
 clear h1 h3 h4 h5 LD HC
 go_wp2
 go_ret2
 exact ⟨v1,v2,rfl,(unhide ALL).1,(unhide ALL).2.1,(unhide ALL).2.2.1,(unhide ALL).2.2.2⟩

/-- numbers of any length, up to some two million words -/
theorem divideW_all (m : Nat) : ∀ X Y,(wd 18446744073709551616 X).length ≤ m→2 ≤ (wd 18446744073709551616 Y).length→m + (wd 18446744073709551616 Y).length < 2097152→DivideW X Y:=by
 induction m with
 | zero =>
  intro X Y hX h2 hl
  have h0 : X = 0:=(wd_len_zero (B:=18446744073709551616) (by omega) X).1 (by omega)
  have hY : 0 < Y:=by
   rcases Nat.eq_zero_or_pos Y with h | h
   ·subst h; rw [wd_zero] at h2; simp at h2
   ·exact h
  exact divide_less X Y (by omega) (by omega)
 | succ m ih =>
  intro X Y hX h2 hl
  rcases Nat.lt_or_ge X Y with hlt | hge
  ·exact divide_less X Y hlt (by omega)
  ·by_cases hs : (wd 18446744073709551616 X).length < (wd 18446744073709551616 Y).length + 80 ∨ (wd 18446744073709551616 Y).length < 80
   ·intro vx vy w hx hy
    exact (divide_short X Y h2 hge (by omega) hs vx vy w hx hy).mono fun e w' ⟨v1,v2,h1,h3,h4,h5,h6⟩ => ⟨v1,v2,h1,h3,h4,h5,Heir.of_own (h6 hge)⟩
   ·by_cases hp : (wd 18446744073709551616 Y).length + (wd 18446744073709551616 Y).length < (wd 18446744073709551616 X).length
    ·exact divide_parts X Y hge (by omega) hp (by omega) (fun D hD => ih D Y (by omega) h2 (by omega))
    ·obtain ⟨n,hn⟩ : ∃ n,n = ((wd 18446744073709551616 X).length - (wd 18446744073709551616 Y).length) / 2:=⟨_,rfl⟩
     have l1:=wd_len_div n X
     have l2:=wd_len_div n (X / 18446744073709551616 ^ n)
     have l3:=wd_len_div n Y
     have l4 : (wd 18446744073709551616 (X / 18446744073709551616 ^ n % Y)).length ≤ (wd 18446744073709551616 Y).length:=wd_len_mono (Nat.le_of_lt (Nat.mod_lt _ (by
      rcases Nat.eq_zero_or_pos Y with h | h
      ·subst h; rw [wd_zero] at h2; simp at h2
      ·exact h)))
     exact divide_halves X Y n hge (by omega) (by omega) (by omega) hn (by omega) (ih _ _ (by omega) (by omega) (by omega)) (ih _ _ (by omega) (by omega) (by omega))
end Go.Proofs.YtjbboicccddhbaaGreatDoor

namespace Go.Proofs.YtjbboicccddhbaaGreatDoor
open Go.RowKit

set_option maxHeartbeats 4000000 in
set_option maxRecDepth 100000 in
theorem natQuoRem_of (vx vy : Value) (X Y : Nat) (w : World) (hx : Sl .u64 w vx (wd 18446744073709551616 X)) (hy : Sl .u64 w vy (wd 18446744073709551616 Y)) (hY : 0 < Y) (hl : (wd 18446744073709551616 X).length < 134217728) (hly : (wd 18446744073709551616 Y).length < 134217728)
  (hD : 2 ≤ (wd 18446744073709551616 Y).length→Y ≤ X→DivideW (X * 2 ^ lz (topW Y)) (Y * 2 ^ lz (topW Y))) :
  Calls Tryz.prog 110 #[vx,vy] w fun e w' => ∃ v1 v2,e = .returned (.tuple #[v1,v2])∧Sl .u64 w' v1 (wd 18446744073709551616 (X / Y))∧Sl .u64 w' v2 (wd 18446744073709551616 (X % Y))∧But [] w w'∧Heir w vx w' v2:=by
 have hcmp:=natCmp_any vx vy X Y w hx hy (by omega) (by omega)
 rcases Nat.lt_or_ge X Y with hlt | hge
 ·rw [cmpN_lt hlt] at hcmp
  rw [Nat.div_eq_of_lt hlt,Nat.mod_eq_of_lt hlt,wd_zero]
  have HC:=hide hcmp
  have HX:=hide hx
  obtain ⟨a1,c1,rfl,-,-⟩:=hx
  obtain ⟨a2,c2,rfl,-,-⟩:=hy
  clear hcmp hD
  generalize (wd 18446744073709551616 X).length = nx at *
  generalize (wd 18446744073709551616 Y).length = ny at *
  go_enter Tryz.func110,Tryz.ntmps110
  go_wp2_with fail
  refine (unhide HC).mono ?_
  rintro e w1 ⟨rfl,q,rfl⟩
  go_wp2
  go_ret2
  exact ⟨_,_,rfl,Sl.nil _ _,unhide HX,(But.refl _ _).drewN q,Heir.self _ _ _⟩
 ·have hc0:=cmpN_ge hge
  generalize cmpN X Y = r at *
  have hr : decide (r < 0) = false:=by simp; omega
  have HC:=hide hcmp
  have HX:=hide hx
  have HY:=hide hy
  rcases hy.open with ⟨e,-⟩ | ⟨hp,b2,o2,c2,rfl,hc2,-,hcell⟩
  ·rw [wd_nil_iff (by omega)] at e; omega
  obtain ⟨a1,c1,rfl,-,-⟩:=hx
  by_cases h1 : (wd 18446744073709551616 Y).length = 1
  ·have hYB : Y < 18446744073709551616:=by
    have:=lt_of_wd_length (B:=18446744073709551616) (by omega) Y 1 (by omega)
    rw [Nat.pow_one] at this
    exact this
   have hc:=hcell 0 (by omega)
   rw [Nat.add_zero,wd_word Y hY hYB] at hc
   simp only [List.getElem?_cons_zero,Option.getD_some] at hc
   have HB:=hide (fun (W : World) (h : Sl .u64 W (.slice a1 (wd 18446744073709551616 X).length c1) (wd 18446744073709551616 X)) => byWord_any _ X Y W h (by omega) hY hYB)
   have hmod : X % Y < 18446744073709551616:=Nat.lt_trans (Nat.mod_lt _ hY) hYB
   clear hcmp hD hcell hy
   generalize hnx : (wd 18446744073709551616 X).length = nx at *
   generalize hny : (wd 18446744073709551616 Y).length = ny at *
   clear hnx hny
   have e1 : ((ny : Int) == 1) = true:=beq_iff_eq.2 (by omega)
   have hp1 : (0 : Int) < (ny : Int):=by omega
   have HE:=hide h1
   clear h1
   go_enter Tryz.func110,Tryz.ntmps110
   go_wp2_with fail
   refine (unhide HC).mono ?_
   rintro e w1 ⟨rfl,q,rfl⟩
   go_wp2_with fail
   refine (unhide HB _ (by exact unhide HX)).mono ?_
   rintro e w2 ⟨v1,rfl,hv1,hb2⟩
   have B2 : Hid (But [] w w2):=((But.refl [] _).drewN q).trans' hb2
   have HV1:=hide hv1
   clear hb2 hv1
   go_wp2_with fail
   refine (natOf_any (X % Y) hmod _).mono ?_
   rintro e w3 ⟨v2,rfl,hv2,hb3,ho3⟩
   have ALL:=hide (And.intro ((unhide HV1).but_nil hb3) (And.intro hv2 (And.intro ((unhide B2).trans' hb3) (ho3.mono (unhide B2).size))))
   clear hv2 hb3 ho3
   go_wp2
   go_ret2
   exact ⟨v1,v2,rfl,(unhide ALL).1,(unhide ALL).2.1,(unhide ALL).2.2.1,Heir.of_own (unhide ALL).2.2.2⟩
  ·obtain ⟨t1,t2,-,-⟩:=top_pos Y hY
   have hs:=(lz_facts (topW Y) t1 t2).1
   have hDO:=hD (by omega) hge
   have hct:=hcell ((wd 18446744073709551616 Y).length - 1) (by omega)
   have LZ:=hide (fun W => lead_any (topW Y) t1 t2 W)
   have hnl:=norm_len Y hY
   have hsl:=shl_len X (lz (topW Y)) hs
   rw [show (wd 18446744073709551616 Y)[(wd 18446744073709551616 Y).length - 1]?.getD 0 = topW Y from rfl] at hct
   have HL1:=hide (fun (W : World) (h : Sl .u64 W (.slice a1 (wd 18446744073709551616 X).length c1) (wd 18446744073709551616 X)) => natLeft_any _ X (lz (topW Y)) W h (by omega) hs)
   have HL2:=hide (fun (W : World) (h : Sl .u64 W (.slice (some ⟨b2,o2,none⟩) (wd 18446744073709551616 Y).length c2) (wd 18446744073709551616 Y)) => natLeft_any _ Y (lz (topW Y)) W h (by omega) hs)
   have hz : 0 < 2 ^ lz (topW Y):=Nat.pow_pos (by omega)
   have HDO:=hide hDO
   unfold DivideW at HDO
   rw [Nat.mul_div_mul_right _ _ hz,Nat.mul_mod_mul_right] at HDO
   have hrl : (wd 18446744073709551616 (X % Y * 2 ^ lz (topW Y))).length < 1073741824:=by
    have:=shl_len (X % Y) (lz (topW Y)) hs
    have h3:=wd_len_mono (Nat.mod_le X Y)
    omega
   have HRR:=hide (fun (v : Value) (W : World) (h : Sl .u64 W v (wd 18446744073709551616 (X % Y * 2 ^ lz (topW Y)))) => natRight_any v (X % Y * 2 ^ lz (topW Y)) (lz (topW Y)) W h hrl hs)
   rw [Nat.mul_div_cancel _ hz] at HRR
   clear hcmp hD hDO hcell hy hnl hsl hz
   generalize lz (topW Y) = s at *
   generalize topW Y = t at *
   generalize hnx : (wd 18446744073709551616 X).length = nx at *
   generalize hny : (wd 18446744073709551616 Y).length = ny at *
   clear hnx hny
   have e1 : ((ny : Int) == 1) = false:=beq_eq_false_iff_ne.2 (by omega)
   go_enter Tryz.func110,Tryz.ntmps110
   go_wp2_with fail
   refine (unhide HC).mono ?_
   rintro e w1 ⟨rfl,q,rfl⟩
   go_wp2_with fail
   refine (unhide LZ _).mono ?_
   rintro e w1 ⟨rfl,hw⟩
   obtain rfl:=hw.symm
   clear hw
   go_wp2_with fail
   refine (unhide HL1 _ (by exact unhide HX)).mono ?_
   rintro e w2 ⟨v1,rfl,hv1,hb2,hp2⟩
   have B2 : Hid (But [] w w2):=((But.refl [] _).drewN q).trans' hb2
   have HE1 : Hid (Heir w (.slice a1 nx c1) w2 v1):=by
    rcases hp2 with rfl | ho
    ·exact Heir.self _ _ _
    ·exact (Heir.of_own ho).pre (Nat.le_refl _)
   have HV1:=hide hv1
   clear hb2 hv1 hp2
   go_wp2_with fail
   refine (unhide HL2 _ ((unhide HY).but_nil (unhide B2))).mono ?_
   rintro e w3 ⟨v2,rfl,hv2,hb3,-⟩
   have B3 : Hid (But [] w w3):=(unhide B2).trans' hb3
   have HV2:=hide hv2
   have HV1':=hide ((unhide HV1).but_nil hb3)
   have HE1':=hide ((unhide HE1).but (unhide HV1) hb3)
   clear hv2 hb3 HV1 HE1
   go_wp2_with fail
   refine (unhide HDO v1 v2 _ (unhide HV1') (unhide HV2)).mono ?_
   rintro e w4 ⟨v3,v4,rfl,hv3,hv4,hb4,he4⟩
   have B4 : Hid (But [] w w4):=(unhide B3).trans' hb4
   have H3:=hide hv3
   have H4:=hide hv4
   have HE4:=hide ((unhide HE1').trans (unhide HV1') hb4 (unhide B3).size he4)
   clear hv3 hv4 hb4 he4 HE1'
   go_wp2_with fail
   refine (unhide HRR v4 _ (unhide H4)).mono ?_
   rintro e w5 ⟨v5,rfl,hv5,hb5,hp5⟩
   have HE5 : Heir w (.slice a1 nx c1) w5 v5:=by
    rcases hp5 with rfl | ho
    ·exact (unhide HE4).but (unhide H4) hb5
    ·exact (Heir.of_own ho).pre (unhide B4).size
   have ALL:=hide (And.intro ((unhide H3).but_nil hb5) (And.intro hv5 (And.intro ((unhide B4).trans' hb5) HE5)))
   clear hv5 hb5 hp5 HE5 HE4
   go_wp2
   go_ret2
   exact ⟨v3,v5,rfl,(unhide ALL).1,(unhide ALL).2.1,(unhide ALL).2.2.1,(unhide ALL).2.2.2⟩

/-- the bound under which numbers are divided: a million words -/
def Short (X _Y : Nat) : Prop:=(wd 18446744073709551616 X).length ≤ 1000000
theorem Short.of (X Y : Nat) (h : (wd 18446744073709551616 X).length ≤ 1000000) : Short X Y:=h
theorem natQuoRem_any (vx vy : Value) (X Y : Nat) (w : World) (hx : Sl .u64 w vx (wd 18446744073709551616 X)) (hy : Sl .u64 w vy (wd 18446744073709551616 Y)) (hY : 0 < Y) (hl : (wd 18446744073709551616 X).length < 134217728) (hly : (wd 18446744073709551616 Y).length < 134217728) (hs : Short X Y) :
  Calls Tryz.prog 110 #[vx,vy] w fun e w' => ∃ v1 v2,e = .returned (.tuple #[v1,v2])∧Sl .u64 w' v1 (wd 18446744073709551616 (X / Y))∧Sl .u64 w' v2 (wd 18446744073709551616 (X % Y))∧But [] w w'∧Heir w vx w' v2 :=
 natQuoRem_of vx vy X Y w hx hy hY hl hly (fun h2 hle => by
  obtain ⟨t1,t2,-,-⟩:=top_pos Y hY
  have hz:=(lz_facts (topW Y) t1 t2).1
  have h3:=norm_len Y hY
  have h4:=shl_len X (lz (topW Y)) hz
  have h5:=wd_len_mono hle
  unfold Short at hs
  exact divideW_all (wd 18446744073709551616 (X * 2 ^ lz (topW Y))).length _ _ (Nat.le_refl _) (by omega) (by omega))

set_option maxHeartbeats 1000000 in
set_option maxRecDepth 100000 in
theorem natQuo_any (vx vy : Value) (X Y : Nat) (w : World) (hx : Sl .u64 w vx (wd 18446744073709551616 X)) (hy : Sl .u64 w vy (wd 18446744073709551616 Y)) (hY : 0 < Y) (hl : (wd 18446744073709551616 X).length < 134217728) (hly : (wd 18446744073709551616 Y).length < 134217728) (hs : Short X Y) :
  Calls Tryz.prog 58 #[vx,vy] w fun e w' => ∃ v1,e = .returned v1∧Sl .u64 w' v1 (wd 18446744073709551616 (X / Y))∧But [] w w':=by
 have HX:=hide hx
 have HQ:=hide (natQuoRem_any vx vy X Y w hx hy hY hl hly hs)
 have HO:=hide (fun r hr => natOne_any vy Y w hy (by omega) r hr)
 obtain ⟨a1,c1,rfl,-,-⟩:=hx
 obtain ⟨a2,c2,rfl,-,-⟩:=hy
 clear hs
 generalize (wd 18446744073709551616 X).length = nx at *
 generalize (wd 18446744073709551616 Y).length = ny at *
 by_cases h1 : Y = 1
 ·subst h1
  rw [Nat.div_one]
  go_enter Tryz.func58,Tryz.ntmps58
  go_wp2_with fail
  refine (unhide HO true (by show true = _; simp)).mono ?_
  rintro e w1 ⟨rfl,hw⟩
  obtain rfl:=hw.symm
  clear hw
  go_wp2
  go_ret
  exact ⟨_,rfl,unhide HX,But.refl _ _⟩
 ·go_enter Tryz.func58,Tryz.ntmps58
  go_wp2_with fail
  refine (unhide HO false (by show false = _; simp [h1])).mono ?_
  rintro e w1 ⟨rfl,hw⟩
  obtain rfl:=hw.symm
  clear hw
  go_wp2_with fail
  refine (unhide HQ).mono ?_
  rintro e w2 ⟨v1,v2,rfl,hv1,-,hb2,-⟩
  have ALL:=hide (And.intro hv1 hb2)
  clear hv1 hb2
  go_wp2
  go_ret
  exact ⟨v1,rfl,(unhide ALL).1,(unhide ALL).2⟩
end Go.Proofs.YtjbboicccddhbaaGreatDoor
