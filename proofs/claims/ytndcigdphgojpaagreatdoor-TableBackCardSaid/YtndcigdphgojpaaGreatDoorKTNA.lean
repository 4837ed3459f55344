/- A word's number, and what a number tells of itself: is it a word, is it 1, as the Go text of package nat does it. -/
import Derived.Test.YtndcigdphgojpaaGreatDoorProg
import Derived.Deep.LoopGhost
import Derived.Lib.ItoaNum
import Derived.Laws.IdiomStrings
import Derived.OwnWalk
import Derived.WalkSpells
import Derived.Test.YtndcigdphgojpaaGreatDoorKTN8
namespace Go.Proofs.YtndcigdphgojpaaGreatDoor
open Go.RowKit

theorem wd_word (u : Nat) (h0 : 0 < u) (hu : u < 18446744073709551616) : wd 18446744073709551616 u = [u]:=by rw [wd_pos (by omega) h0,Nat.mod_eq_of_lt hu,Nat.div_eq_of_lt hu,wd_zero]
set_option maxHeartbeats 1000000 in
theorem natOf_any (u : Nat) (hu : u < 18446744073709551616) (w : World) :
  Calls Tryz.prog 55 #[.int .u64 u] w fun e w' => ∃ v,e = .returned v∧Sl .u64 w' v (wd 18446744073709551616 u)∧But [] w w'∧Own w.heap.size w' v:=by
 by_cases h0 : u = 0
 ·subst h0
  go_enter Tryz.func55,Tryz.ntmps55
  go_wp2
  go_ret
  exact ⟨_,rfl,by rw [wd_zero]; exact Sl.nil _ _,But.refl _ _,own_nil _ _ _⟩
 ·have n0 : ((u : Int) == 0) = false:=by simp; exact h0
  go_enter Tryz.func55,Tryz.ntmps55
  go_wp2
  go_ret
  refine ⟨_,rfl,?_,(But.refl _ _).alloc _,?_⟩
  ·rw [wd_word u (by omega) hu]
   exact Sl.mk (xs:=[u]) w.heap.size 0 1 (by simp) (fun i hi => by
    have : i = 0:=by simpa using hi
    subst this; simp) (fun _ i v hv => by
    rw [World.cell?_alloc_new] at hv
    rcases i with _ | i
    ·exact ⟨u,by simpa using hv.symm⟩
    ·simp at hv)
  ·intro b off n c e
   simp at e
   obtain ⟨⟨rfl,rfl,-⟩,-,-⟩:=e
   exact ⟨Nat.le_refl _,fun i _ => by simp⟩

/-- a word as a number of words: none for 0 -/
theorem word_open {w : World} {v : Value} {u : Nat} (h : Sl .u64 w v (wd 18446744073709551616 u)) (hu : u < 18446744073709551616) : (u = 0∧∃ a c,v = .slice a 0 c) ∨ (0 < u∧∃ b off c,v = .slice (some ⟨b,off,none⟩) 1 c∧w.cell? ⟨b,off,none⟩ = some (.int .u64 u)):=by
 rcases Nat.eq_zero_or_pos u with h0 | h0
 ·subst h0
  rw [wd_zero] at h
  obtain ⟨a,c,e,-⟩:=h
  exact .inl ⟨rfl,a,c,e⟩
 ·rw [wd_word u h0 hu] at h
  rcases h.open with ⟨e,-⟩ | ⟨-,b,off,c,e,-,-,hc⟩
  ·simp at e
  ·exact .inr ⟨h0,b,off,c,e,hc 0 (by simp)⟩
theorem wd_len_two (u : Nat) (hu : 18446744073709551616 ≤ u) : 2 ≤ (wd 18446744073709551616 u).length:=by
 rcases Nat.lt_or_ge (wd 18446744073709551616 u).length 2 with h | h
 ·have:=lt_of_wd_length (B:=18446744073709551616) (by omega) u 1 (by omega)
  omega
 ·exact h

set_option maxHeartbeats 1000000 in
theorem natWord_any (v : Value) (u : Nat) (hu : u < 18446744073709551616) (w : World) (hv : Sl .u64 w v (wd 18446744073709551616 u)) :
  Calls Tryz.prog 60 #[v] w fun e w' => e = .returned (.tuple #[.int .u64 u,.bool true])∧w' = w:=by
 rcases word_open hv hu with ⟨rfl,a,c,rfl⟩ | ⟨h0,b,off,c,rfl,hc⟩
 ·go_enter Tryz.func60,Tryz.ntmps60
  go_wp2
  go_ret2
  exact ⟨rfl,rfl⟩
 ·go_enter Tryz.func60,Tryz.ntmps60
  go_wp2
  go_ret2
  exact ⟨rfl,rfl⟩
set_option maxHeartbeats 1000000 in
theorem natWord_long (v : Value) (u : Nat) (hu : 18446744073709551616 ≤ u) (w : World) (hv : Sl .u64 w v (wd 18446744073709551616 u)) (hl : (wd 18446744073709551616 u).length < 2147483648) :
  Calls Tryz.prog 60 #[v] w fun e w' => e = .returned (.tuple #[.int .u64 0,.bool false])∧w' = w:=by
 have h2:=wd_len_two u hu
 obtain ⟨a,c,rfl,-,-⟩:=hv
 generalize (wd 18446744073709551616 u).length = l at *
 have n0 : ((l : Int) == 0) = false:=beq_eq_false_iff_ne.2 (by omega)
 have n1 : ((l : Int) == 1) = false:=beq_eq_false_iff_ne.2 (by omega)
 clear hu
 go_enter Tryz.func60,Tryz.ntmps60
 go_wp2
 go_ret2
 exact ⟨rfl,rfl⟩

set_option maxHeartbeats 1000000 in
theorem natOne_any (v : Value) (u : Nat) (w : World) (hv : Sl .u64 w v (wd 18446744073709551616 u)) (hl : (wd 18446744073709551616 u).length < 2147483648) (r : Bool) (hr : Hid (r = decide (u = 1))) :
  Calls Tryz.prog 50 #[v] w fun e w' => e = .returned (.bool r)∧w' = w:=by
 rcases Nat.lt_or_ge u 18446744073709551616 with hu | hu
 ·rcases word_open hv hu with ⟨rfl,a,c,rfl⟩ | ⟨h0,b,off,c,rfl,hc⟩
  ·have e : Hid (r = false):=by show _ = _; rw [unhide hr]; rfl
   clear hr
   go_enter Tryz.func50,Tryz.ntmps50
   go_wp2
   go_ret
   exact ⟨by rw [unhide e]; rfl,rfl⟩
  ·have e : ((u : Int) == 1) = r:=by rw [unhide hr,Bool.eq_iff_iff]; simp; omega
   clear hr
   go_enter Tryz.func50,Tryz.ntmps50
   go_wp2
   go_ret
   exact ⟨rfl,rfl⟩
 ·have e : Hid (r = false):=by show _ = _; rw [unhide hr]; simp; omega
  have h2:=wd_len_two u hu
  clear hr hu
  obtain ⟨a,c,rfl,-,-⟩:=hv
  generalize (wd 18446744073709551616 u).length = l at *
  have n1 : ((l : Int) == 1) = false:=beq_eq_false_iff_ne.2 (by omega)
  go_enter Tryz.func50,Tryz.ntmps50
  go_wp2
  go_ret
  exact ⟨by rw [unhide e]; rfl,rfl⟩
end Go.Proofs.YtndcigdphgojpaaGreatDoor

namespace Go.Proofs.YtndcigdphgojpaaGreatDoor
open Go.RowKit

theorem kara_sum (X Y P : Nat) (x0 x1 y0 y1 : Nat) (hX : X = x0 + P * x1) (hY : Y = y0 + P * y1) : x0 * y0 + P * ((x0 + x1) * (y0 + y1) - x0 * y0 - x1 * y1) + P * P * (x1 * y1) = X * Y:=by
 have e : (x0 + x1) * (y0 + y1) - x0 * y0 - x1 * y1 = x0 * y1 + x1 * y0:=by
  have : (x0 + x1) * (y0 + y1) = x0 * y0 + x1 * y1 + (x0 * y1 + x1 * y0):=by grind
  omega
 rw [e,hX,hY]
 grind
theorem kara_le1 (x0 x1 y0 y1 : Nat) : x0 * y0 ≤ (x0 + x1) * (y0 + y1):=Nat.mul_le_mul (by omega) (by omega)
theorem kara_le2 (x0 x1 y0 y1 : Nat) : x1 * y1 ≤ (x0 + x1) * (y0 + y1) - x0 * y0:=by
 have : (x0 + x1) * (y0 + y1) = x0 * y0 + x1 * y1 + (x0 * y1 + x1 * y0):=by grind
 omega
theorem wd_len_add (X Y k : Nat) (hx : X < 18446744073709551616 ^ k) (hy : Y < 18446744073709551616 ^ k) : (wd 18446744073709551616 (X + Y)).length ≤ k + 1:=wd_length_le (by omega) _ _ (by rw [Nat.pow_succ]; omega)
/-- a row behind a copy into its middle, of which nothing was there -/
theorem vl_mid (rs xs : List Nat) (o : Nat) (hl : o + xs.length ≤ rs.length) (hz : ∀ j,o ≤ j→rs[j]?.getD 0 = 0) : vl 18446744073709551616 (rs.take o ++ (xs ++ ((rs.drop o).take (rs.length - o)).drop xs.length) ++ rs.drop (o + (rs.length - o))) = vl 18446744073709551616 rs + 18446744073709551616 ^ o * vl 18446744073709551616 xs:=by
 have lt : (rs.take o).length = o:=by rw [List.length_take]; omega
 have e1 : rs.drop (o + (rs.length - o)) = []:=List.drop_eq_nil_of_le (by omega)
 have z1 : vl 18446744073709551616 (rs.drop o) = 0:=vl_zeros _ _ (fun j hj => by rw [List.getElem?_drop]; exact hz _ (by omega))
 have z2 : vl 18446744073709551616 (((rs.drop o).take (rs.length - o)).drop xs.length) = 0:=vl_zeros _ _ (fun j hj => by
  rw [List.getElem?_drop,List.getElem?_take]
  split
  ·rw [List.getElem?_drop]; exact hz _ (by omega)
  ·rfl)
 have h1:=congrArg (vl 18446744073709551616) (List.take_append_drop o rs)
 rw [vl_append,z1,Nat.mul_zero,Nat.add_zero] at h1
 rw [e1,List.append_nil,vl_append,lt,vl_append,z2,Nat.mul_zero,Nat.add_zero,h1]
theorem zero_copy (xs : List Nat) (n j : Nat) (h : xs.length ≤ j) : (xs ++ (List.replicate n 0).drop xs.length)[j]?.getD 0 = 0:=by
 rw [List.getElem?_append_right h,List.getElem?_drop,List.getElem?_replicate]
 split <;> rfl

set_option maxHeartbeats 4000000 in
set_option maxRecDepth 100000 in
theorem karatsuba_any (k : Nat) (IH : MulOK k) (va vb : Value) (X Y d : Nat) (w : World) (ha : Sl .u64 w va (wd 18446744073709551616 X)) (hb : Sl .u64 w vb (wd 18446744073709551616 Y)) (hd : 2 < d) (hx : d < (wd 18446744073709551616 X).length) (hxx : (wd 18446744073709551616 X).length ≤ 2 * d) (hy : d < (wd 18446744073709551616 Y).length) (hyy : (wd 18446744073709551616 Y).length ≤ (wd 18446744073709551616 X).length) (hk1 : 2 * d + 2 ≤ k) (hlx : (wd 18446744073709551616 X).length < 134217728) :
  Calls Tryz.prog 64 #[va,vb,.int .i64 (d : Int)] w fun e w' => ∃ v',e = .returned v'∧Sl .u64 w' v' (wd 18446744073709551616 (X * Y))∧But [] w w'∧Fresh w.heap.size v':=by
 obtain ⟨x0,ex0⟩ : ∃ x0,x0 = X % 18446744073709551616 ^ d:=⟨_,rfl⟩
 obtain ⟨x1,ex1⟩ : ∃ x1,x1 = X / 18446744073709551616 ^ d:=⟨_,rfl⟩
 obtain ⟨y0,ey0⟩ : ∃ y0,y0 = Y % 18446744073709551616 ^ d:=⟨_,rfl⟩
 obtain ⟨y1,ey1⟩ : ∃ y1,y1 = Y / 18446744073709551616 ^ d:=⟨_,rfl⟩
 have hp : 0 < 18446744073709551616 ^ d:=Nat.pow_pos (by omega)
 have bx0 : x0 < 18446744073709551616 ^ d:=by rw [ex0]; exact Nat.mod_lt _ hp
 have by0 : y0 < 18446744073709551616 ^ d:=by rw [ey0]; exact Nat.mod_lt _ hp
 have lx1 : (wd 18446744073709551616 x1).length = (wd 18446744073709551616 X).length - d:=by rw [ex1]; exact wd_len_div d X
 have ly1 : (wd 18446744073709551616 y1).length = (wd 18446744073709551616 Y).length - d:=by rw [ey1]; exact wd_len_div d Y
 have bx1 : x1 < 18446744073709551616 ^ d:=lt_of_wd_length (by omega) _ _ (by omega)
 have by1 : y1 < 18446744073709551616 ^ d:=lt_of_wd_length (by omega) _ _ (by omega)
 have lx0 : (wd 18446744073709551616 x0).length ≤ d:=wd_length_le (by omega) _ _ bx0
 have ly0 : (wd 18446744073709551616 y0).length ≤ d:=wd_length_le (by omega) _ _ by0
 have lsx:=wd_len_add x0 x1 d bx0 bx1
 have lsy:=wd_len_add y0 y1 d by0 by1
 have lp:=wd_len_mul (x0 + x1) (y0 + y1)
 have ll:=wd_len_mul x0 y0
 have lh:=wd_len_mul x1 y1
 have hsum:=kara_sum X Y (18446744073709551616 ^ d) x0 x1 y0 y1 (by rw [ex0,ex1]; exact (Nat.mod_add_div _ _).symm) (by rw [ey0,ey1]; exact (Nat.mod_add_div _ _).symm)
 have hle1:=kara_le1 x0 x1 y0 y1
 have hle2:=kara_le2 x0 x1 y0 y1
 have hXY:=mul_lt_pow (lt_wd X) (lt_wd Y)
 have lc1 : (wd 18446744073709551616 ((x0 + x1) * (y0 + y1) - x0 * y0)).length ≤ (wd 18446744073709551616 ((x0 + x1) * (y0 + y1))).length:=wd_len_mono (Nat.sub_le _ _)
 obtain ⟨a1,c1,rfl,hc1,-⟩:=id ha
 obtain ⟨a2,c2,rfl,hc2,-⟩:=id hb
 have low1:=fun W (h : Sl .u64 W _ _) => natLow_any (.slice a1 (wd 18446744073709551616 X).length c1) X d W h (by omega) (by omega)
 have low2:=fun W (h : Sl .u64 W _ _) => natLow_any (.slice a2 (wd 18446744073709551616 Y).length c2) Y d W h (by omega) (by omega)
 have hi1:=fun W (h : Sl .u64 W _ _) => natHigh_any (.slice a1 (wd 18446744073709551616 X).length c1) X d W h (by omega) (by omega)
 have hi2:=fun W (h : Sl .u64 W _ _) => natHigh_any (.slice a2 (wd 18446744073709551616 Y).length c2) Y d W h (by omega) (by omega)
 rw [← ex0] at low1
 rw [← ey0] at low2
 rw [← ex1] at hi1
 rw [← ey1] at hi2
 have LOW1:=hide low1
 have LOW2:=hide low2
 have HI1:=hide hi1
 have HI2:=hide hi2
 have HA:=hide ha
 have HB:=hide hb
 have HIH:=hide IH
 have HSUM:=hide hsum
 have HLE1:=hide hle1
 have HLE2:=hide hle2
 have HXY:=hide hXY
 have HLEN:=hide (And.intro lx1 (And.intro ly1 (And.intro lx0 (And.intro ly0 (And.intro lsx (And.intro lsy (And.intro lp (And.intro ll (And.intro lh lc1)))))))))
 have HBND:=hide (And.intro bx0 (And.intro by0 (And.intro bx1 by1)))
 have hmk:=fun wx => run_make64p wx (wd 18446744073709551616 X).length (wd 18446744073709551616 Y).length (by omega)
 clear low1 low2 hi1 hi2 ha hb IH hsum hle1 hle2 hXY lx1 ly1 lx0 ly0 lsx lsy lp ll lh lc1 bx0 bx1 by0 by1 hp ex0 ex1 ey0 ey1
 generalize hnx : (wd 18446744073709551616 X).length = nx at *
 generalize hny : (wd 18446744073709551616 Y).length = ny at *
 clear hnx hny
 go_enter Tryz.func64,Tryz.ntmps64
 go_wp2_with fail
 refine (unhide LOW1 _ (unhide HA)).mono ?_
 rintro e w1 ⟨vx0,rfl,hvx0,hw⟩
 obtain rfl:=hw.symm
 have HX0:=hide hvx0
 clear hw hvx0
 go_wp2_with fail
 refine (unhide HI1 _ (unhide HA)).mono ?_
 rintro e w1 ⟨vx1,rfl,hvx1,hw⟩
 obtain rfl:=hw.symm
 have HX1:=hide hvx1
 clear hw hvx1
 go_wp2_with fail
 refine (unhide LOW2 _ (unhide HB)).mono ?_
 rintro e w1 ⟨vy0,rfl,hvy0,hw⟩
 obtain rfl:=hw.symm
 have HY0:=hide hvy0
 clear hw hvy0
 go_wp2_with fail
 refine (unhide HI2 _ (unhide HB)).mono ?_
 rintro e w1 ⟨vy1,rfl,hvy1,hw⟩
 obtain rfl:=hw.symm
 have HY1:=hide hvy1
 clear hw hvy1
 go_wp2_with fail
 refine (unhide HIH vx0 vy0 x0 y0 _ (unhide HX0) (unhide HY0) (by have:=unhide HLEN; omega)).mono ?_
 rintro e w1 ⟨vl0,rfl,hvl,hb1,-⟩
 have HL:=hide hvl
 have B1:=hide hb1
 clear hvl hb1
 go_wp2_with fail
 refine (unhide HIH vx1 vy1 x1 y1 _ ((unhide HX1).but_nil (unhide B1)) ((unhide HY1).but_nil (unhide B1)) (by have:=unhide HLEN; omega)).mono ?_
 rintro e w2 ⟨vh0,rfl,hvh,hb2,-⟩
 have HH:=hide hvh
 have B2 : Hid (But [] w w2):=(unhide B1).trans' hb2
 have HL2:=hide ((unhide HL).but_nil hb2)
 clear hvh hb2
 go_wp2_with fail
 refine (natAdd_any vx0 vx1 x0 x1 _ ((unhide HX0).but_nil (unhide B2)) ((unhide HX1).but_nil (unhide B2)) (by have:=unhide HLEN; omega) (by have:=unhide HLEN; omega)).mono ?_
 rintro e w3 ⟨vsx,rfl,hvsx,hb3⟩
 have HSX:=hide hvsx
 have B3 : Hid (But [] w w3):=(unhide B2).trans' hb3
 have B23:=hide hb3
 clear hvsx hb3
 go_wp2_with fail
 refine (natAdd_any vy0 vy1 y0 y1 _ ((unhide HY0).but_nil (unhide B3)) ((unhide HY1).but_nil (unhide B3)) (by have:=unhide HLEN; omega) (by have:=unhide HLEN; omega)).mono ?_
 rintro e w4 ⟨vsy,rfl,hvsy,hb4⟩
 have HSY:=hide hvsy
 have B4 : Hid (But [] w w4):=(unhide B3).trans' hb4
 have B24 : Hid (But [] w2 w4):=(unhide B23).trans' hb4
 have HSX4:=hide ((unhide HSX).but_nil hb4)
 clear hvsy hb4
 go_wp2_with fail
 refine (unhide HIH vsx vsy (x0 + x1) (y0 + y1) _ (unhide HSX4) (unhide HSY) (by have:=unhide HLEN; omega)).mono ?_
 rintro e w5 ⟨vp,rfl,hvp,hb5,-⟩
 have HP:=hide hvp
 have B5 : Hid (But [] w w5):=(unhide B4).trans' hb5
 have B25 : Hid (But [] w2 w5):=(unhide B24).trans' hb5
 clear hvp hb5
 go_wp2_with fail
 refine (natSub_any vp vl0 _ (x0 * y0) _ (unhide HP) ((unhide HL2).but_nil (unhide B25)) (by have:=unhide HLEN; omega) (unhide HLE1)).mono ?_
 rintro e w6 ⟨vc1,rfl,hvc1,hb6⟩
 have HC1:=hide hvc1
 have B6 : Hid (But [] w w6):=(unhide B5).trans' hb6
 have B26 : Hid (But [] w2 w6):=(unhide B25).trans' hb6
 clear hvc1 hb6
 go_wp2_with fail
 refine (natSub_any vc1 vh0 _ (x1 * y1) _ (unhide HC1) ((unhide HH).but_nil (unhide B26)) (by have:=unhide HLEN; omega) (unhide HLE2)).mono ?_
 rintro e w7 ⟨vc,rfl,hvc,hb7⟩
 have HCR:=hide hvc
 have B7 : Hid (But [] w w7):=(unhide B6).trans' hb7
 have B27 : Hid (But [] w2 w7):=(unhide B26).trans' hb7
 clear hvc hb7 B26 B25 B24 B23 B6 B5 B4 B3 B1 HX0 HX1 HY0 HY1 HSX HSY HSX4 HP HC1 HA HB HIH LOW1 LOW2 HI1 HI2
 have hbm:=but_made w7 (nx + ny) 33
 obtain ⟨w8,hcp,HC⟩:=run_copy_seg (P:=Tryz.prog) (w7.alloc (.cells (madeCells #[.int .u64 0] (nx + ny)) 33)) 70 71 33 Tryz.underlying70 size_u64 w7.heap.size 0 (nx + ny) (nx + ny) vl0 (List.replicate (nx + ny) 0) (wd 18446744073709551616 (x0 * y0)) (Seg.made _ _ _) (by simp) (((unhide HL2).but_nil (unhide B27)).but_nil hbm) (by have:=unhide HLEN; rw [List.length_replicate]; omega)
 have R1:=vl_copy (wd 18446744073709551616 (x0 * y0)) (nx + ny)
 have R2:=mem_copy (wd 18446744073709551616 (x0 * y0)) (nx + ny) (wd_mem (by omega) _)
 have R3:=len_copy (wd 18446744073709551616 (x0 * y0)) (nx + ny) (by have:=unhide HLEN; omega)
 have R4:=fun j (hj : 2 * d ≤ j) => zero_copy (wd 18446744073709551616 (x0 * y0)) (nx + ny) j (by have:=unhide HLEN; omega)
 rw [vl_wd (by omega)] at R1
 have hsg8:=(unhide HC).1
 have hb8 : But [w7.heap.size] (w7.alloc (.cells (madeCells #[.int .u64 0] (nx + ny)) 33)) w8:=(unhide HC).2.but
 have B8 : But [] w7 w8:=hbm.trans hb8 (fun x hx => by simp at hx; subst hx; exact .inr (Nat.le_refl _))
 have hg8 : w7.heap.size < w8.heap.size:=Nat.lt_of_lt_of_le (by simp) hb8.size
 generalize wd 18446744073709551616 (x0 * y0) ++ (List.replicate (nx + ny) 0).drop (wd 18446744073709551616 (x0 * y0)).length = r1 at *
 have hsub:=hsg8.sub (2 * d) (r1.length - 2 * d) (by omega)
 have lsub : ((r1.drop (2 * d)).take (r1.length - 2 * d)).length = r1.length - 2 * d:=by rw [List.length_take,List.length_drop]; omega
 obtain ⟨w9,hcp2,HC2⟩:=run_copy_seg (P:=Tryz.prog) w8 70 71 33 Tryz.underlying70 size_u64 w7.heap.size (0 + 2 * d) (r1.length - 2 * d) (r1.length - 2 * d) vh0 ((r1.drop (2 * d)).take (r1.length - 2 * d)) (wd 18446744073709551616 (x1 * y1)) hsub lsub.symm ((unhide HH).but_nil ((unhide B27).trans' B8)) (by have:=unhide HLEN; rw [lsub]; omega)
 have hS2:=hsg8.whole ((unhide HC2).2.wide (Nat.le_refl _) (n':=r1.length - 2 * d) (by have:=unhide HLEN; omega)) (unhide HC2).1 (by rw [List.length_append,List.length_drop,lsub]; have:=unhide HLEN; omega) (by omega)
 have V2:=vl_mid r1 (wd 18446744073709551616 (x1 * y1)) (2 * d) (by have:=unhide HLEN; omega) (fun j hj => R4 j hj)
 rw [vl_wd (by omega),R1] at V2
 have M2 : ∀ x ∈ r1.take (2 * d) ++ (wd 18446744073709551616 (x1 * y1) ++ ((r1.drop (2 * d)).take (r1.length - 2 * d)).drop (wd 18446744073709551616 (x1 * y1)).length) ++ r1.drop (2 * d + (r1.length - 2 * d)),x < 18446744073709551616:=by
  intro x hx
  simp only [List.mem_append] at hx
  rcases hx with (hx | hx | hx) | hx
  ·exact R2 x (List.mem_of_mem_take hx)
  ·exact wd_mem (by omega) _ x hx
  ·exact R2 x (List.mem_of_mem_drop (List.mem_of_mem_take (List.mem_of_mem_drop hx)))
  ·exact R2 x (List.mem_of_mem_drop hx)
 have L2 : (r1.take (2 * d) ++ (wd 18446744073709551616 (x1 * y1) ++ ((r1.drop (2 * d)).take (r1.length - 2 * d)).drop (wd 18446744073709551616 (x1 * y1)).length) ++ r1.drop (2 * d + (r1.length - 2 * d))).length = nx + ny:=by
  simp only [List.length_append,List.length_take,List.length_drop]
  have:=unhide HLEN
  omega
 rw [Nat.zero_add] at hS2 hcp2
 generalize r1.take (2 * d) ++ (wd 18446744073709551616 (x1 * y1) ++ ((r1.drop (2 * d)).take (r1.length - 2 * d)).drop (wd 18446744073709551616 (x1 * y1)).length) ++ r1.drop (2 * d + (r1.length - 2 * d)) = r2 at *
 have hfit : vl 18446744073709551616 r2 + 18446744073709551616 ^ d * ((x0 + x1) * (y0 + y1) - x0 * y0 - x1 * y1) = X * Y:=by
  rw [V2,← unhide HSUM,Nat.two_mul,Nat.pow_add]; omega
 have hb9 : But [w7.heap.size] w8 w9:=(unhide HC2).2.but
 have B9 : But [] w7 w9:=B8.trans hb9 (fun x hx => by simp at hx; subst hx; exact .inr (Nat.le_refl _))
 have hadd:=addAt_any w7.heap.size d (r2.length - d) r2 ((x0 + x1) * (y0 + y1) - x0 * y0 - x1 * y1) vc w9 hS2 (by omega) (Nat.le_refl _) ((unhide HCR).but_nil B9) (fun hp => off_fresh (unhide HCR) hp _ (Nat.le_refl _)) M2 (by rw [hfit,L2]; exact unhide HXY) (by omega)
 rw [L2,hfit] at hadd
 rw [R3] at hcp2
 have HADD:=hide hadd
 have HB9 : Hid (But [] w w9):=(unhide B7).trans' B9
 have HGE : w.heap.size ≤ w7.heap.size:=(unhide B7).size
 clear hadd hfit hS2 V2 M2 L2 hb9 B9 R1 R2 R3 R4 HC HC2 hsub lsub hsg8 hb8 B8 hg8 hbm HCR HH HL HL2 HXY HSUM HLE1 HLE2 HBND HLEN B7 B27 B2
 have i1 : (0 : Int) ≤ (d : Int):=by omega
 have i2 : (d : Int) < ((nx + ny : Nat) : Int):=by omega
 have i3 : (2 * (d : Int)) < ((nx + ny : Nat) : Int):=by omega
 go_wp2_with fail
 refine (unhide HADD).mono ?_
 rintro e w10 ⟨rs2,c,rfl,hl2,hm2,hv2,hs2,hb2⟩
 have hB10 : Hid (But [] w w10):=(unhide HB9).trans hb2 (fun x hx => by simp at hx; subst hx; exact .inr HGE)
 have hsl:=hs2.sl (nx + ny) (by rw [hl2]; exact Nat.le_refl _)
 rw [hl2] at hsl
 have HSL:=hide hsl
 have HM2:=hide hm2
 have HV2:=hide hv2
 have HL2 : rs2.length < 2147483648:=by rw [hl2]; omega
 clear hsl hm2 hv2 hl2 hs2 hb2 HADD HB9
 go_wp2_with fail
 refine (trimmed_any _ rs2 _ (unhide HSL) (unhide HM2) HL2).mono ?_
 rintro e w11 ⟨v7,rfl,hv7,hw,hsb⟩
 obtain rfl:=hw.symm
 clear hw
 rw [unhide HV2] at hv7
 have HV7:=hide hv7
 have HSB:=hide hsb
 clear hv7 hsb
 go_wp2
 go_ret
 exact ⟨v7,rfl,unhide HV7,unhide hB10,fresh_of (unhide HSB) HGE⟩

set_option maxHeartbeats 4000000 in
set_option maxRecDepth 100000 in
theorem natMul_long (k : Nat) (X Y : Nat) (IH : 40 < (wd 18446744073709551616 Y).length→MulOK k) (va vb : Value) (w : World) (ha : Sl .u64 w va (wd 18446744073709551616 X)) (hb : Sl .u64 w vb (wd 18446744073709551616 Y)) (hle : (wd 18446744073709551616 Y).length ≤ (wd 18446744073709551616 X).length) (hk : (wd 18446744073709551616 X).length + (wd 18446744073709551616 Y).length ≤ k + 1) (hl : (wd 18446744073709551616 X).length < 134217728) (u v : Value) (huv : (u = va∧v = vb) ∨ ((wd 18446744073709551616 Y).length < (wd 18446744073709551616 X).length∧u = vb∧v = va)) :
  Calls Tryz.prog 31 #[u,v] w fun e w' => ∃ v',e = .returned v'∧Sl .u64 w' v' (wd 18446744073709551616 (X * Y))∧But [] w w'∧(Fresh w.heap.size v' ∨ (v' = va∧Y = 1)):=by
 obtain ⟨a1,c1,rfl,hc1,-⟩:=id ha
 obtain ⟨a2,c2,rfl,hc2,-⟩:=id hb
 by_cases h0 : (wd 18446744073709551616 Y).length = 0
 ·have e : Y = 0:=(wd_len_zero (by omega) Y).1 h0
  subst e
  rw [Nat.mul_zero,wd_zero]
  simp only [wd_zero,List.length_nil] at *
  generalize (wd 18446744073709551616 X).length = nx at *
  clear ha hb IH
  rcases huv with ⟨rfl,rfl⟩ | ⟨hlt,rfl,rfl⟩
  all_goals
   go_enter Tryz.func31,Tryz.ntmps31
   go_wp2
   go_ret
   exact ⟨_,rfl,Sl.nil _ _,But.refl _ _,.inl fun b off n c e => by simp at e⟩
 by_cases hY1 : Y = 1
 ·have HO:=hide (fun W (h : Sl .u64 W (.slice a2 (wd 18446744073709551616 Y).length c2) (wd 18446744073709551616 Y)) => natOne_any _ Y W h (by omega) true (by show true = _; rw [hY1]; rfl))
  have HA:=hide ha
  have HB:=hide hb
  have HX : Hid (wd 18446744073709551616 X = wd 18446744073709551616 (X * Y)):=by show _ = _; rw [hY1,Nat.mul_one]
  have HY:=hide hY1
  clear ha hb IH hY1
  generalize (wd 18446744073709551616 X).length = nx at *
  generalize (wd 18446744073709551616 Y).length = ny at *
  have n0 : ((ny : Int) == 0) = false:=beq_eq_false_iff_ne.2 (by omega)
  rcases huv with ⟨rfl,rfl⟩ | ⟨hlt,rfl,rfl⟩
  all_goals
   go_enter Tryz.func31,Tryz.ntmps31
   go_wp2_with fail
   refine (unhide HO _ (unhide HB)).mono ?_
   rintro e w1 ⟨rfl,h⟩
   obtain rfl:=h.symm
   clear h
   go_wp2
   go_ret
   exact ⟨_,rfl,by rw [← unhide HX]; exact unhide HA,But.refl _ _,.inr ⟨rfl,unhide HY⟩⟩
 ·have HO:=hide (fun W (h : Sl .u64 W (.slice a2 (wd 18446744073709551616 Y).length c2) (wd 18446744073709551616 Y)) => natOne_any _ Y W h (by omega) false (by show false = _; simp; exact hY1))
  have HBB:=hide hb
  by_cases hs : (wd 18446744073709551616 Y).length ≤ 40
  ·have hm:=mulWords_any _ _ _ _ w ha hb (wd_mem (by omega) X) (wd_mem (by omega) Y) (by omega) (by omega) (by omega) (by omega)
   rw [vl_wd (by omega),vl_wd (by omega)] at hm
   have HM:=hide hm
   clear hm ha hb IH
   generalize (wd 18446744073709551616 X).length = nx at *
   generalize (wd 18446744073709551616 Y).length = ny at *
   have n0 : ((ny : Int) == 0) = false:=beq_eq_false_iff_ne.2 (by omega)
   rcases huv with ⟨rfl,rfl⟩ | ⟨hlt,rfl,rfl⟩
   all_goals
    go_enter Tryz.func31,Tryz.ntmps31
    go_wp2_with fail
    refine (unhide HO _ (unhide HBB)).mono ?_
    rintro e w1 ⟨rfl,h⟩
    obtain rfl:=h.symm
    clear h
    go_wp2_with fail
    refine (unhide HM).mono ?_
    rintro e w1 ⟨v',rfl,h1,h2,h3⟩
    have H1:=hide (And.intro h1 (And.intro h2 h3))
    clear h1 h2 h3
    go_wp2
    go_ret
    exact ⟨v',rfl,(unhide H1).1,(unhide H1).2.1,.inl (unhide H1).2.2⟩
  ·obtain ⟨d,hd⟩ : ∃ d,d = ((wd 18446744073709551616 X).length + 1) / 2:=⟨_,rfl⟩
   by_cases hh : (wd 18446744073709551616 Y).length ≤ d
   ·have hm:=mulHalves_any k (IH (by omega)) _ _ X Y d w ha hb (by omega) (by omega) (by omega) hY1 (by omega) (by omega) (by omega) (by omega)
    have HM:=hide hm
    clear hm ha hb IH
    generalize (wd 18446744073709551616 X).length = nx at *
    generalize (wd 18446744073709551616 Y).length = ny at *
    have e1 : ((nx : Int) + 1) / 2 = (d : Int):=by omega
    have n0 : ((ny : Int) == 0) = false:=beq_eq_false_iff_ne.2 (by omega)
    have h1' : 2 * d ≤ nx + 1:=by omega
    have h2' : nx ≤ 2 * d:=by omega
    clear hd
    rcases huv with ⟨rfl,rfl⟩ | ⟨hlt,rfl,rfl⟩
    all_goals
     go_enter Tryz.func31,Tryz.ntmps31
     go_wp2_with fail
     refine (unhide HO _ (unhide HBB)).mono ?_
     rintro e w1 ⟨rfl,h⟩
     obtain rfl:=h.symm
     clear h
     go_wp2_with fail
     refine (unhide HM).mono ?_
     rintro e w1 ⟨v',rfl,h1,h2,h3⟩
     have H1:=hide (And.intro h1 (And.intro h2 h3))
     clear h1 h2 h3
     go_wp2
     go_ret
     exact ⟨v',rfl,(unhide H1).1,(unhide H1).2.1,.inl (unhide H1).2.2⟩
   ·have hm:=karatsuba_any k (IH (by omega)) _ _ X Y d w ha hb (by omega) (by omega) (by omega) (by omega) (by omega) (by omega) (by omega)
    have HM:=hide hm
    clear hm ha hb IH
    generalize (wd 18446744073709551616 X).length = nx at *
    generalize (wd 18446744073709551616 Y).length = ny at *
    have e1 : ((nx : Int) + 1) / 2 = (d : Int):=by omega
    have n0 : ((ny : Int) == 0) = false:=beq_eq_false_iff_ne.2 (by omega)
    have h1' : 2 * d ≤ nx + 1:=by omega
    have h2' : nx ≤ 2 * d:=by omega
    clear hd
    rcases huv with ⟨rfl,rfl⟩ | ⟨hlt,rfl,rfl⟩
    all_goals
     go_enter Tryz.func31,Tryz.ntmps31
     go_wp2_with fail
     refine (unhide HO _ (unhide HBB)).mono ?_
     rintro e w1 ⟨rfl,h⟩
     obtain rfl:=h.symm
     clear h
     go_wp2_with fail
     refine (unhide HM).mono ?_
     rintro e w1 ⟨v',rfl,h1,h2,h3⟩
     have H1:=hide (And.intro h1 (And.intro h2 h3))
     clear h1 h2 h3
     go_wp2
     go_ret
     exact ⟨v',rfl,(unhide H1).1,(unhide H1).2.1,.inl (unhide H1).2.2⟩

theorem mulOK (k : Nat) (hk : k < 134217728) : MulOK k:=by
 induction k with
 | zero =>
  intro va vb m n w ha hb h
  have hm : (wd 18446744073709551616 m).length = 0:=by omega
  have hn : (wd 18446744073709551616 n).length = 0:=by omega
  exact (natMul_long 0 m n (fun h => by omega) va vb w ha hb (by omega) (by omega) (by omega) va vb (.inl ⟨rfl,rfl⟩)).mono fun e w' ⟨v',h1,h2,h3,h4⟩ => ⟨v',h1,h2,h3,h4.elim .inl fun h => .inr (.inl h)⟩
 | succ k ih =>
  intro va vb m n w ha hb h
  rcases Nat.lt_or_ge (wd 18446744073709551616 m).length (wd 18446744073709551616 n).length with hlt | hge
  ·have:=natMul_long k n m (fun _ => ih (by omega)) vb va w hb ha (by omega) (by omega) (by omega) va vb (.inr ⟨hlt,rfl,rfl⟩)
   rw [Nat.mul_comm] at this
   exact this.mono fun e w' ⟨v',h1,h2,h3,h4⟩ => ⟨v',h1,h2,h3,h4.elim .inl fun h => .inr (.inr h)⟩
  ·exact (natMul_long k m n (fun _ => ih (by omega)) va vb w ha hb hge (by omega) (by omega) va vb (.inl ⟨rfl,rfl⟩)).mono fun e w' ⟨v',h1,h2,h3,h4⟩ => ⟨v',h1,h2,h3,h4.elim .inl fun h => .inr (.inl h)⟩
theorem natMul_any (va vb : Value) (m n : Nat) (w : World) (ha : Sl .u64 w va (wd 18446744073709551616 m)) (hb : Sl .u64 w vb (wd 18446744073709551616 n)) (hl : (wd 18446744073709551616 m).length + (wd 18446744073709551616 n).length < 134217728) :
  Calls Tryz.prog 31 #[va,vb] w fun e w' => ∃ v',e = .returned v'∧Sl .u64 w' v' (wd 18446744073709551616 (m * n))∧But [] w w'∧MulAt w.heap.size v' va vb m n :=
 mulOK _ hl va vb m n w ha hb (Nat.le_refl _)
end Go.Proofs.YtndcigdphgojpaaGreatDoor

namespace Go.Proofs.YtndcigdphgojpaaGreatDoor
open Go.RowKit

theorem But.grown {a w w' : World} {row : Option Nat} (h : But [] a w) (hg : w.grownBy w' row) (hr : ∀ k,row = some k→a.heap.size ≤ k) : But [] a w' :=
 ⟨hg.os.trans h.os,hg.tape.trans h.tape,hg.output.trans h.output,Nat.le_trans h.size hg.size,fun k hk hn => by
  rw [hg.block k (Nat.lt_of_lt_of_le hk h.size) (fun e => by have:=hr k e.symm; omega)]
  exact h.block k hk hn⟩
theorem grown_but {w w' : World} {g : Nat} (hg : w.grownBy w' (some g)) : But [g] w w' :=
 ⟨hg.os,hg.tape,hg.output,hg.size,fun k hk hn => hg.block k hk (fun e => hn (by simp only [Option.some.injEq] at e; simp [e]))⟩
theorem grown_but_none {w w' : World} (hg : w.grownBy w' none) : But [] w w' :=
 ⟨hg.os,hg.tape,hg.output,hg.size,fun k hk _ => hg.block k hk (by simp)⟩
theorem owns_but {w w' : World} {base : Nat} {e : TypeId} {size : Nat} {v : Value} {n : Nat} {xs : List Value} (h : w.ownsRow base e size v n xs) (hb : But [] w w') : w'.ownsRow base e size v n xs:=by
 obtain ⟨h1,h2⟩:=h
 refine ⟨h1,?_⟩
 rcases h2 with h2 | ⟨g,cap,cur,e1,e2,e3,e4⟩
 ·exact .inl h2
 ·refine .inr ⟨g,cap,cur,e1,e2,?_,e4⟩
  have hlt : g < w.heap.size:=by
   rcases Nat.lt_or_ge g w.heap.size with h | h
   ·exact h
   ·rw [Array.getElem?_eq_none h] at e3; cases e3
  rw [hb.block g hlt (by simp)]; exact e3

/-- a byte's value -/
def u8v (b : UInt8) : Value:=.int .u8 (b.toNat : Int)
/-- the decimal digits' bytes, the last first; none for 0 -/
def rdig (n : Nat) : List UInt8:=if h : 0 < n then UInt8.ofNat (48 + n % 10) :: rdig (n / 10) else []
 termination_by n
 decreasing_by exact Nat.div_lt_self h (by omega)
theorem rdig_zero : rdig 0 = []:=by rw [rdig]; simp
theorem rdig_pos {n : Nat} (h : 0 < n) : rdig n = UInt8.ofNat (48 + n % 10) :: rdig (n / 10):=by rw [rdig,dif_pos h]
theorem rdig_rev (n : Nat) (h : 0 < n) : (rdig n).reverse = Lib.decDigits n:=by
 induction n using Nat.strongRecOn with
 | _ n ih =>
  rw [rdig_pos h,List.reverse_cons,Lib.decDigits]
  by_cases h10 : n < 10
  ·rw [dif_pos h10,Nat.div_eq_of_lt h10,rdig_zero,Nat.mod_eq_of_lt h10]; rfl
  ·rw [dif_neg h10,ih (n / 10) (Nat.div_lt_self h (by omega)) (by omega)]
theorem rdig_length (n k : Nat) (h : n < 10 ^ k) : (rdig n).length ≤ k:=by
 induction k generalizing n with
 | zero =>
  have : n = 0:=by simp at h; omega
  subst this; simp [rdig_zero]
 | succ k ih =>
  by_cases hn : 0 < n
  ·rw [rdig_pos hn,List.length_cons]
   have:=ih (n / 10) (by rw [Nat.div_lt_iff_lt_mul (by omega)]; rw [Nat.pow_succ] at h; exact h)
   omega
  ·have : n = 0:=by omega
   subst this; simp [rdig_zero]
theorem info_u8 : ∃ i,Tryz.prog.info? 5 = some i∧i.zero = some (.int .u8 0)∧i.size = 1∧i.bytes = 1:=by
 have h : (Tryz.prog.info? 5).map (fun i => (i.zero,i.size,i.bytes)) = some (some (.int .u8 0),1,1):=by kernel_rfl
 obtain ⟨i,hi,he⟩:=Option.map_eq_some_iff.1 h
 simp only [Prod.mk.injEq] at he
 exact ⟨i,hi,he.1,he.2.1,he.2.2⟩

/-- ahead of round i of the reversal -/
structure RevInv (bs cs : List Nat) (i : Nat) : Prop where
 len : cs.length = bs.length
 at' : ∀ k,k < bs.length→cs[k]?.getD 0 = if k < i ∨ bs.length - i ≤ k then bs[bs.length - 1 - k]?.getD 0 else bs[k]?.getD 0
theorem RevInv.start (bs : List Nat) : RevInv bs bs 0:=⟨rfl,fun k hk => by rw [if_neg (by omega)]⟩
theorem getD_set (l : List Nat) (i k x : Nat) (hi : i < l.length) : (l.set i x)[k]?.getD 0 = if k = i then x else l[k]?.getD 0:=by
 by_cases h : k = i
 ·subst h; rw [List.getElem?_set_self hi,if_pos rfl]; rfl
 ·rw [List.getElem?_set_ne (Ne.symm h),if_neg h]
theorem RevInv.step {bs cs : List Nat} {i : Nat} (h : RevInv bs cs i) (hij : i < bs.length - 1 - i) : RevInv bs ((cs.set i (cs[bs.length - 1 - i]?.getD 0)).set (bs.length - 1 - i) (cs[i]?.getD 0)) (i + 1):=by
 have hl:=h.len
 refine ⟨by simp [hl],fun k hk => ?_⟩
 have e1 : cs[i]?.getD 0 = bs[i]?.getD 0:=by rw [h.at' i (by omega),if_neg (by omega)]
 have e2 : cs[bs.length - 1 - i]?.getD 0 = bs[bs.length - 1 - i]?.getD 0:=by rw [h.at' (bs.length - 1 - i) (by omega),if_neg (by omega)]
 rw [getD_set _ _ _ _ (by simp [hl]; omega),getD_set _ _ _ _ (by omega),e1,e2]
 by_cases h1 : k = bs.length - 1 - i
 ·subst h1
  rw [if_pos rfl,if_pos (by omega),show bs.length - 1 - (bs.length - 1 - i) = i from by omega]
 ·rw [if_neg h1]
  by_cases h2 : k = i
  ·subst h2
   rw [if_pos rfl,if_pos (by omega)]
  ·rw [if_neg h2,h.at' k hk]
   by_cases h3 : k < i ∨ bs.length - i ≤ k
   ·rw [if_pos h3,if_pos (by omega)]
   ·rw [if_neg h3,if_neg (by omega)]
theorem RevInv.fin {bs cs : List Nat} {i : Nat} (h : RevInv bs cs i) (hij : bs.length ≤ 2 * i + 1) : cs = bs.reverse:=by
 refine List.ext_getElem (by simp [h.len]) fun k h1 h2 => ?_
 have hk : k < bs.length:=by rw [← h.len]; exact h1
 have e:=h.at' k hk
 rw [List.getElem?_eq_getElem h1,Option.getD_some] at e
 rw [e,List.getElem_reverse]
 by_cases h3 : k < i ∨ bs.length - i ≤ k
 ·rw [if_pos h3,List.getElem?_eq_getElem (by omega)]; rfl
 ·rw [if_neg h3,List.getElem?_eq_getElem hk,Option.getD_some]
  have : bs.length - 1 - k = k:=by omega
  simp only [this]
theorem owns_row {w : World} {base : Nat} {e : TypeId} {v : Value} {bs : List UInt8} (h : w.ownsRow base e 1 v bs.length (bs.map u8v)) (h0 : 0 < bs.length) :
  ∃ g cap,v = .slice (some ⟨g,0,none⟩) bs.length cap∧base ≤ g∧bs.length ≤ cap∧Row .u8 w g (bs.map UInt8.toNat):=by
 obtain ⟨h1,h2⟩:=h
 rcases h2 with ⟨-,h2⟩ | ⟨g,cap,cur,e1,e2,e3,e4,e5,e6,e7⟩
 ·omega
 ·refine ⟨g,cap,e1,e2,e4,fun i hi => ?_⟩
  rw [List.length_map] at hi
  have hc : cur[i]? = some (u8v bs[i]):=by
   have : (cur.toList.take (bs.length * 1))[i]? = some (u8v bs[i]):=by rw [e7,List.getElem?_map,List.getElem?_eq_getElem hi]; rfl
   rw [List.getElem?_take_of_lt (by omega)] at this
   simpa using this
  refine ⟨?_,by simp [World.frozen?,e3]⟩
  simp only [World.cell?,e3,hc]
  simp [u8v,hi]

theorem u8v_digit (r : Nat) (h : r < 10) : Value.int .u8 (48 + (r : Int)) = u8v (UInt8.ofNat (48 + r)):=by
 unfold u8v
 rw [UInt8.toNat_ofNat_of_lt' (by simp [UInt8.size]; omega)]
 simp

/-- the last k digits, with noughts, the last first -/
def pdig : Nat→Nat→List UInt8
 | 0,_ => []
 | k + 1,r => UInt8.ofNat (48 + r % 10) :: pdig k (r / 10)
theorem pdig_length : ∀ k r,(pdig k r).length = k
 | 0,_ => rfl
 | k + 1,r => by rw [pdig,List.length_cons,pdig_length k]
theorem pdig_snoc : ∀ k r,pdig (k + 1) r = pdig k r ++ [UInt8.ofNat (48 + r / 10 ^ k % 10)]
 | 0,r => by simp [pdig]
 | k + 1,r => by
  rw [pdig,pdig_snoc k (r / 10),pdig,List.cons_append,Nat.div_div_eq_div_mul,Nat.pow_succ,Nat.mul_comm 10]
theorem pdig_mod : ∀ k r,pdig k (r % 10 ^ k) = pdig k r
 | 0,r => rfl
 | k + 1,r => by
  have h1 : r % 10 ^ (k + 1) % 10 = r % 10:=Nat.mod_mod_of_dvd _ ⟨10 ^ k,by rw [Nat.pow_succ,Nat.mul_comm]⟩
  have h2 : r % 10 ^ (k + 1) / 10 = r / 10 % 10 ^ k:=by rw [Nat.pow_succ,Nat.mul_comm,Nat.mod_mul_right_div_self]
  rw [pdig,pdig,h1,h2,pdig_mod k]
theorem rdig_part : ∀ k n,10 ^ k ≤ n→rdig n = pdig k n ++ rdig (n / 10 ^ k)
 | 0,n,_ => by simp [pdig]
 | k + 1,n,h => by
  have hp : 0 < 10 ^ k:=Nat.pow_pos (by omega)
  have h0 : 0 < n:=by have:=Nat.pow_pos (n:=k + 1) (show 0 < 10 from by omega); omega
  rw [rdig_pos h0,rdig_part k (n / 10) (by rw [Nat.le_div_iff_mul_le (by omega),← Nat.pow_succ]; exact h),pdig,List.cons_append,Nat.div_div_eq_div_mul,Nat.pow_succ,Nat.mul_comm 10]
end Go.Proofs.YtndcigdphgojpaaGreatDoor

namespace Go.Proofs.YtndcigdphgojpaaGreatDoor
open Go.RowKit

/-- the digits of a number, the last first, with noughts up to a width -/
def wdig (W X : Nat) : List UInt8:=rdig X ++ List.replicate (W - (rdig X).length) 48
theorem wdig_zero (X : Nat) : wdig 0 X = rdig X:=by simp [wdig]
theorem pdig_nought : ∀ k,pdig k 0 = List.replicate k 48
 | 0 => rfl
 | k + 1 => by rw [pdig,Nat.zero_div,pdig_nought k,List.replicate_succ]; rfl
theorem pdig_wdig : ∀ k n,n < 10 ^ k→pdig k n = wdig k n
 | 0,n,h => by
  have : n = 0:=by simp at h; omega
  subst this; simp [pdig,wdig,rdig_zero]
 | k + 1,n,h => by
  by_cases h0 : 0 < n
  ·rw [pdig,pdig_wdig k (n / 10) (by rw [Nat.div_lt_iff_lt_mul (by omega)]; rw [Nat.pow_succ] at h; exact h),wdig,wdig,rdig_pos h0,List.cons_append,List.length_cons,Nat.add_sub_add_right]
  ·have : n = 0:=by omega
   subst this; rw [pdig_nought,wdig,rdig_zero]; simp
theorem pdig_add : ∀ a b n,pdig (a + b) n = pdig a n ++ pdig b (n / 10 ^ a)
 | 0,b,n => by simp [pdig]
 | a + 1,b,n => by
  rw [Nat.succ_add,pdig,pdig_add a b,pdig,List.cons_append,Nat.div_div_eq_div_mul,Nat.pow_succ,Nat.mul_comm 10]
theorem wdig_long (D X : Nat) (h : 10 ^ D ≤ X) : wdig 0 X = wdig D (X % 10 ^ D) ++ wdig 0 (X / 10 ^ D):=by
 rw [wdig_zero,wdig_zero,rdig_part D X h,← pdig_mod D X,pdig_wdig D _ (Nat.mod_lt _ (Nat.pow_pos (by omega)))]
theorem wdig_wide (D X : Nat) (h : X < 10 ^ (D + D)) : wdig (D + D) X = wdig D (X % 10 ^ D) ++ wdig D (X / 10 ^ D):=by
 have hp : 0 < 10 ^ D:=Nat.pow_pos (by omega)
 rw [← pdig_wdig _ _ h,pdig_add,← pdig_mod D X,pdig_wdig D _ (Nat.mod_lt _ hp),pdig_wdig D (X / 10 ^ D) (by rw [Nat.div_lt_iff_lt_mul hp,← Nat.pow_add]; exact h)]
theorem wdig_length (W X : Nat) : (wdig W X).length = max W (rdig X).length:=by
 rw [wdig,List.length_append,List.length_replicate]; omega
theorem wdig_pos (W X : Nat) (h : 0 < X ∨ 0 < W) : 0 < (wdig W X).length:=by
 rw [wdig_length]
 rcases h with h | h
 ·rw [rdig_pos h]; simp; omega
 ·omega

/-- rows of words stay -/
def Keep64 (w w' : World) : Prop:=∀ v xs,Sl .u64 w v xs→Sl .u64 w' v xs
theorem Keep64.of_but {w w' : World} (h : But [] w w') : Keep64 w w':=fun _ _ hs => hs.but_nil h
theorem Keep64.trans {a b c : World} (h : Keep64 a b) (k : Keep64 b c) : Keep64 a c:=fun v xs hs => k v xs (h v xs hs)
theorem keep_grown {w w' : World} {base : Nat} {vo : Value} {ods : List UInt8} (ho : w.ownsRow base 5 1 vo ods.length (ods.map u8v)) (hn : vo = .slice none 0 0 ∨ 0 < ods.length) (hg : w.grownBy w' vo.ownBlock) : Keep64 w w':=by
 intro v xs hs
 rcases hn with rfl | h0
 ·exact hs.but_nil (grown_but_none hg)
 ·obtain ⟨g,cap,rfl,-,-,hr⟩:=owns_row ho h0
  exact hs.over (grown_but hg) (hr 0 (by simpa using h0)).1 (by simp)
theorem below_grown {w w' : World} {base : Nat} {vo : Value} {n : Nat} {xs : List Value} (ho : w.ownsRow base 5 1 vo n xs) (hb : base ≤ w.heap.size) (hg : w.grownBy w' vo.ownBlock) : Below base w w' :=
 ⟨hg.os,hg.tape,hg.output,hg.size,fun k hk => hg.block k (by omega) (fun e => by have:=(ho.lt k e.symm).1; omega)⟩
theorem But.below_of {w w' : World} {base : Nat} (h : But [] w w') (hb : base ≤ w.heap.size) : Below base w w':=⟨h.os,h.tape,h.output,h.size,fun k hk => h.block k (by omega) (by simp)⟩
theorem below_trans {a b c : World} {n : Nat} (h : Below n a b) (k : Below n b c) : Below n a c :=
 ⟨k.os.trans h.os,k.tape.trans h.tape,k.output.trans h.output,Nat.le_trans h.size k.size,fun i hi => (k.block i hi).trans (h.block i hi)⟩
theorem owns_shape {w : World} {base : Nat} {e : TypeId} {v : Value} {n : Nat} {xs : List Value} (h : w.ownsRow base e 1 v n xs) : ∃ a c,v = .slice a n c:=by
 obtain ⟨-,h2⟩:=h
 rcases h2 with ⟨rfl,rfl⟩ | ⟨g,cap,cur,e1,-⟩
 ·exact ⟨_,_,rfl⟩
 ·exact ⟨_,_,e1⟩
end Go.Proofs.YtndcigdphgojpaaGreatDoor

namespace Go.Proofs.YtndcigdphgojpaaGreatDoor
open Go.RowKit

/-- a row of decimal digits -/
def Digits (ds : List UInt8) : Prop:=∀ d ∈ ds,48 ≤ d.toNat∧d.toNat ≤ 57
/-- the number that they tell -/
def dval (ds : List UInt8) : Nat:=ds.foldl (fun n d => n * 10 + (d.toNat - 48)) 0
theorem dval_from (ds : List UInt8) : ∀ n : Nat,ds.foldl (fun n d => n * 10 + (d.toNat - 48)) n = n * 10 ^ ds.length + dval ds:=by
 induction ds with
 | nil => intro n; simp [dval]
 | cons d ds ih =>
  intro n
  unfold dval
  rw [List.foldl_cons,List.foldl_cons,ih,ih (0 * 10 + (d.toNat - 48)),List.length_cons,Nat.pow_succ]
  generalize 10 ^ ds.length = P
  generalize dval ds = D
  grind
theorem dval_append (xs ys : List UInt8) : dval (xs ++ ys) = dval xs * 10 ^ ys.length + dval ys:=by
 show (xs ++ ys).foldl (fun n d => n * 10 + (d.toNat - 48)) 0 = _
 rw [List.foldl_append,dval_from]
 rfl
theorem dval_snoc (xs : List UInt8) (d : UInt8) : dval (xs ++ [d]) = dval xs * 10 + (d.toNat - 48):=by
 rw [dval_append]
 simp [dval]
theorem dval_cons (d : UInt8) (ds : List UInt8) : dval (d :: ds) = (d.toNat - 48) * 10 ^ ds.length + dval ds:=by
 have h:=dval_append [d] ds
 rw [List.singleton_append] at h
 rw [h]
 simp [dval]
theorem dval_lt : ∀ {ds : List UInt8},Digits ds→dval ds < 10 ^ ds.length
 | [],_ => by simp [dval]
 | d :: ds,h => by
  have h1:=dval_lt (ds:=ds) (fun x hx => h x (by simp [hx]))
  have h2:=h d (by simp)
  have h3 : (d.toNat - 48) * 10 ^ ds.length ≤ 9 * 10 ^ ds.length:=Nat.mul_le_mul_right _ (by omega)
  rw [dval_cons,List.length_cons,Nat.pow_succ]
  omega
theorem dig_byte (k : Nat) (h : k < 10) : (UInt8.ofNat (48 + k)).toNat = 48 + k:=UInt8.toNat_ofNat_of_lt' (by simp [UInt8.size]; omega)
theorem dec_digits (n : Nat) : Digits (Lib.decDigits n)∧dval (Lib.decDigits n) = n∧0 < (Lib.decDigits n).length:=by
 induction n using Nat.strongRecOn with
 | _ n ih =>
  rw [Lib.decDigits]
  by_cases h10 : n < 10
  ·rw [dif_pos h10]
   have e:=dig_byte n h10
   refine ⟨fun d hd => ?_,?_,by simp⟩
   ·rw [List.mem_singleton] at hd
    rw [hd,e]
    omega
   ·show 0 * 10 + ((UInt8.ofNat (48 + n)).toNat - 48) = n
    rw [e]
    omega
  ·rw [dif_neg h10]
   obtain ⟨h1,h2,h3⟩:=ih (n / 10) (Nat.div_lt_self (by omega) (by omega))
   have e:=dig_byte (n % 10) (Nat.mod_lt _ (by omega))
   refine ⟨fun d hd => ?_,?_,by simp⟩
   ·rcases List.mem_append.1 hd with hd | hd
    ·exact h1 d hd
    ·rw [List.mem_singleton] at hd
     rw [hd,e]
     omega
   ·rw [dval_snoc,h2,e]
    omega
end Go.Proofs.YtndcigdphgojpaaGreatDoor

namespace Go.Proofs.YtndcigdphgojpaaGreatDoor
open Go.RowKit

theorem take_dval {es : List UInt8} {j : Nat} (hd : Digits es) (hj : j < es.length) : dval (es.take (j + 1)) = dval (es.take j) * 10 + ((es[j]?.getD 0).toNat - 48)∧dval (es.take j) < 10 ^ j∧48 ≤ (es[j]?.getD 0).toNat∧(es[j]?.getD 0).toNat ≤ 57:=by
 have h1 : es.take (j + 1) = es.take j ++ [es[j]?.getD 0]:=by
  rw [List.getElem?_eq_getElem hj,Option.getD_some,List.take_succ_eq_append_getElem hj]
 have h2:=dval_lt (ds:=es.take j) (fun x hx => hd x (List.mem_of_mem_take hx))
 rw [List.length_take,Nat.min_eq_left (by omega)] at h2
 have h3:=hd (es[j]?.getD 0) (by rw [List.getElem?_eq_getElem hj,Option.getD_some]; exact List.getElem_mem hj)
 exact ⟨by rw [h1,dval_snoc],h2,h3.1,h3.2⟩
theorem byte_at {t : ByteArray} {es : List UInt8} (ht : t.data.toList = es) (j : Nat) (hj : j < es.length) (T : TypeId) (hT : Tryz.prog.underlying T = some .string) (w : World) : (Instr.index T (.string t) (.int .i64 (j : Int))).run Tryz.prog w = .ok (.int .u8 (((es[j]?.getD 0).toNat : Nat) : Int)) w:=by
 subst ht
 have hs : j < t.size:=by simpa using hj
 rw [run_index_string w T t .i64 (j : Int) hT,dif_pos ⟨by omega,by omega⟩]
 have e : (t[((j : Int)).toNat]'(by simpa using hs)) = t.data.toList[j]?.getD 0:=by
  rw [List.getElem?_eq_getElem hj,Option.getD_some]
  simp
  rfl
 simp only [e]

theorem extract_drop (t : ByteArray) (j : Nat) : (t.extract j t.size).data.toList = t.data.toList.drop j:=by
 rw [ByteArray.data_extract,Array.toList_extract,List.extract_eq_take_drop,List.take_of_length_le]
 rw [List.length_drop]
 simp

/-- what holds ahead of a round: so many digits are read -/
structure ReadInv (w : World) (ds : List UInt8) (k : Nat) (t : ByteArray) (vo : Value) (wr : World) : Prop where
 left : t.data.toList = ds.drop k
 le : k ≤ ds.length
 num : Sl .u64 wr vo (wd 18446744073709551616 (dval (ds.take k)))
 but : But [] w wr

set_option maxHeartbeats 4000000 in
set_option maxRecDepth 100000 in
theorem natRead_any (t : ByteArray) (ds : List UInt8) (w : World) (ht : t.data.toList = ds) (hd : Digits ds) (hl : ds.length < 1000000) :
  Calls Tryz.prog 116 #[.string t] w fun e w' => ∃ v',e = .returned v'∧Sl .u64 w' v' (wd 18446744073709551616 (dval ds))∧But [] w w':=by
 have HD:=hide hd
 have HT:=hide ht
 clear hd ht
 go_enter Tryz.func116,Tryz.ntmps116
 go_wp2
 go_loopg [0,3] ds.length (fun m s o wr => ∃ (t : ByteArray),s = .string t∧Hid (ReadInv w ds (ds.length - m) t o wr)∧m ≤ ds.length∧t.size = m)
 case atStart => exact ⟨t,rfl,⟨by rw [Nat.sub_self,List.drop_zero]; exact unhide HT,by omega,by rw [Nat.sub_self,List.take_zero]; exact wd_zero 18446744073709551616 ▸ Sl.nil _ _,But.refl _ _⟩,Nat.le_refl _,by rw [← unhide HT]; simp⟩
 case round =>
  obtain ⟨t,rfl,HI,hm,hsz⟩:=hrel
  rename World => wr
  have hs : ((t.size : Nat) : Int) = (gk : Int):=by omega
  by_cases hm0 : gk = 0
  ·subst hm0
   have hfin : Hid (Sl .u64 wr u3 (wd 18446744073709551616 (dval ds))∧But [] w wr):=by
    have h:=unhide HI
    have h1:=h.num
    rw [Nat.sub_zero,List.take_length] at h1
    exact ⟨h1,h.but⟩
   clear HI
   go_wp2
   go_ret
   exact ⟨_,rfl,(unhide hfin).1,(unhide hfin).2⟩
  ·obtain ⟨c,hc⟩ : ∃ c,c = min gk 19:=⟨_,rfl⟩
   have hc1 : 0 < c:=by omega
   have hc2 : c ≤ 19:=by omega
   have hc3 : c ≤ gk:=by omega
   have hmin : min (gk : Int) 19 = (c : Int):=by omega
   clear hc
   have hes : Hid (t.data.toList = ds.drop (ds.length - gk)):=(unhide HI).left
   have hel : (ds.drop (ds.length - gk)).length = gk:=by rw [List.length_drop]; omega
   have hed : Digits (ds.drop (ds.length - gk)):=fun d h => unhide HD d (List.mem_of_mem_drop h)
   obtain ⟨es,hese⟩ : ∃ es,es = ds.drop (ds.length - gk):=⟨_,rfl⟩
   rw [← hese] at hes hel hed
   have HEE:=hide hese
   have HED:=hide hed
   clear hese hed
   go_wp2_with fail
   go_loopw [5,6,15] (fun a b i wq => ∃ j x P : Nat,j ≤ c∧i = .int .i64 j∧a = .int .u64 x∧b = .int .u64 P∧x < 10000000000000000000∧P ≤ 10000000000000000000∧Hid (x = dval (es.take j)∧P = 10 ^ j)∧wq = wr) (fun _ _ i _ => c - (intOf i).toNat)
   case atStart => exact ⟨0,0,1,by omega,rfl,rfl,rfl,by omega,by omega,⟨by simp [dval],by simp⟩,rfl⟩
   case round =>
    obtain ⟨j,x,P,hj,rfl,rfl,rfl,hx,hP,HJ,rfl⟩:=hrel
    by_cases hjc : j < c
    ·obtain ⟨d1,d2,d3,d4⟩:=take_dval (unhide HED) (by omega : j < es.length)
     have hb:=fun W => byte_at (unhide hes) j (by omega) 9 Tryz.underlying9 W
     rw [← (unhide HJ).1] at d1 d2
     have hp18 : 10 ^ j ≤ 10 ^ 18:=Nat.pow_le_pow_right (by omega) (by omega)
     have hpp : Hid (P * 10 = 10 ^ (j + 1)):=by show _ = _; rw [(unhide HJ).2,Nat.pow_succ]
     have hP2 : P ≤ 1000000000000000000:=by rw [(unhide HJ).2]; exact hp18
     have hx2 : x < 1000000000000000000:=Nat.lt_of_lt_of_le d2 hp18
     generalize (es[j]?.getD 0).toNat = d at *
     obtain ⟨d',rfl⟩ : ∃ d',d = 48 + d':=⟨d - 48,by omega⟩
     have HD1 : Hid (dval (es.take (j + 1)) = x * 10 + d'):=by show _ = _; rw [d1]; omega
     have hd9 : d' ≤ 9:=by omega
     have e1 : IntKind.u8.wrap (((48 + d' : Nat) : Int) - 48) = (d' : Int):=by rw [IntKind.wrap_u8]; omega
     have e2 : IntKind.u64.wrap ((x : Int) * 10) = ((x * 10 : Nat) : Int):=by rw [IntKind.wrap_u64]; omega
     have e3 : IntKind.u64.wrap (((x * 10 : Nat) : Int) + (d' : Int)) = ((x * 10 + d' : Nat) : Int):=by rw [IntKind.wrap_u64]; omega
     have e4 : IntKind.u64.wrap ((P : Int) * 10) = ((P * 10 : Nat) : Int):=by rw [IntKind.wrap_u64]; omega
     clear d1 d2 d3 d4 hp18
     go_wp2
     refine ⟨⟨j + 1,x * 10 + d',P * 10,by omega,by go_num,by go_num,by go_num,by omega,by omega,⟨(unhide HD1).symm,unhide hpp⟩,trivial⟩,?_⟩
     simp [intOf]; omega
    ·have hjc' : j = c:=by omega
     subst hjc'
     have hI:=unhide HI
     have hnew : dval (ds.take (ds.length - gk)) * P + x = dval (ds.take (ds.length - (gk - j))):=by
      have e : ds.take (ds.length - (gk - j)) = ds.take (ds.length - gk) ++ es.take j:=by
       rw [unhide HEE,show ds.length - (gk - j) = (ds.length - gk) + j from by omega,List.take_add]
      rw [e,dval_append,List.length_take,Nat.min_eq_left (by omega),← (unhide HJ).1,← (unhide HJ).2]
     have hlen : (wd 18446744073709551616 (dval (ds.take (ds.length - gk)))).length < 1000000:=by
      have h1:=dval_lt (ds:=ds.take (ds.length - gk)) (fun x hx => unhide HD x (List.mem_of_mem_take hx))
      refine Nat.lt_of_le_of_lt (wd_length_le (B:=18446744073709551616) (by omega) _ (ds.take (ds.length - gk)).length (Nat.lt_of_lt_of_le h1 (Nat.pow_le_pow_left (by omega) _))) ?_
      rw [List.length_take]
      omega
     have hwl : ∀ n,n < 18446744073709551616→(wd 18446744073709551616 n).length ≤ 1:=fun n hn => wd_length_le (by omega) _ _ (by rw [Nat.pow_one]; exact hn)
     have hl1:=hwl P (by omega)
     have hl2:=hwl x (by omega)
     have hl3:=wd_len_mul (dval (ds.take (ds.length - gk))) P
     have MU:=hide (fun (W : World) (v : Value) (hb : But [] wr W) (h : Sl .u64 W v (wd 18446744073709551616 P)) => natMul_any u3 v _ _ W (hI.num.but_nil hb) h (by omega))
     have AD:=hide (fun (W : World) (v v2 : Value) (h : Sl .u64 W v (wd 18446744073709551616 (dval (ds.take (ds.length - gk)) * P))) (h2 : Sl .u64 W v2 (wd 18446744073709551616 x)) => natAdd_any v v2 _ _ W h h2 (by omega) (by omega))
     rw [hnew] at AD
     have HBW:=hide hI.but
     have hex : t.extract j t.size = t.extract j t.size:=rfl
     have hleft : Hid ((t.extract j t.size).data.toList = ds.drop (ds.length - (gk - j))):=by
      show _ = _
      have h1:=unhide hes
      rw [show ds.length - (gk - j) = (ds.length - gk) + j from by omega,← List.drop_drop,← unhide HEE,← h1]
      exact extract_drop t j
     have hsz2 : (t.extract j t.size).size = gk - j:=by simp [hsz]
     rw [hsz] at hleft hsz2
     clear hI hnew hlen hwl hl1 hl2 hl3 hex
     obtain ⟨oa,oc,hoe⟩ : ∃ a c,u3 = .slice a (wd 18446744073709551616 (dval (ds.take (ds.length - gk)))).length c:=by obtain ⟨a,c,e,-,-⟩:=(unhide HI).num; exact ⟨a,c,e⟩
     clear HI
     subst hoe
     generalize (wd 18446744073709551616 (dval (ds.take (ds.length - gk)))).length = on at *
     go_wp2_with fail
     refine (natOf_any P (by omega) _).mono ?_
     rintro e w1 ⟨v1,rfl,hv1,hb1,-⟩
     have H1:=hide hv1
     have B1:=hide hb1
     clear hv1 hb1
     go_wp2_with fail
     refine (unhide MU _ v1 (unhide B1) (unhide H1)).mono ?_
     rintro e w2 ⟨v2,rfl,hv2,hb2,-⟩
     have H2:=hide hv2
     have B2 : Hid (But [] w w2):=((unhide HBW).trans' (unhide B1)).trans' hb2
     clear hv2 hb2
     go_wp2_with fail
     refine (natOf_any x (by omega) _).mono ?_
     rintro e w3 ⟨v3,rfl,hv3,hb3,-⟩
     have H3:=hide hv3
     have H2':=hide ((unhide H2).but_nil hb3)
     have B3 : Hid (But [] w w3):=(unhide B2).trans' hb3
     clear hv3 hb3
     go_wp2_with fail
     refine (unhide AD _ v2 v3 (unhide H2') (unhide H3)).mono ?_
     rintro e w4 ⟨v4,rfl,hv4,hb4⟩
     have H4:=hide hv4
     have B4 : Hid (But [] w w4):=(unhide B3).trans' hb4
     clear hv4 hb4
     go_wp2
     go_roundg (gk - j)
     case measure => omega
     case rel => exact ⟨_,rfl,⟨unhide hleft,by omega,unhide H4,unhide B4⟩,by omega,hsz2⟩
end Go.Proofs.YtndcigdphgojpaaGreatDoor

namespace Go.Proofs.YtndcigdphgojpaaGreatDoor
open Go.RowKit

set_option maxHeartbeats 4000000 in
set_option maxRecDepth 100000 in
theorem digitsEnd_any (t : ByteArray) (bs ds es : List UInt8) (k : Nat) (w : World) (ht : t.data.toList = bs) (hk : bs.drop k = ds ++ es) (hkl : k ≤ bs.length) (hd : Digits ds) (he : ∀ e,es.head? = some e→e.toNat < 48 ∨ 57 < e.toNat) (hl : bs.length < 1000000) (r : Int) (hr : Hid (r = ((k + ds.length : Nat) : Int))) :
  Calls Tryz.prog 115 #[.string t,.int .i64 (k : Int)] w fun e w' => e = .returned (.int .i64 r)∧w' = w:=by
 have hlen : bs.length = k + ds.length + es.length:=by
  have:=congrArg List.length hk
  rw [List.length_drop,List.length_append] at this
  omega
 have hsz : t.size = k + ds.length + es.length:=by rw [← hlen,← ht]; simp
 have hs : ((t.size : Nat) : Int) = ((k + ds.length + es.length : Nat) : Int):=by rw [hsz]
 have hat : ∀ j,(bs[k + j]?.getD 0) = ((ds ++ es)[j]?.getD 0):=fun j => by rw [← hk,List.getElem?_drop]
 have HAT:=hide hat
 have HT:=hide ht
 have HD:=hide hd
 have HE:=hide he
 clear hat hk hd he ht hkl
 go_enter Tryz.func115,Tryz.ntmps115
 go_wp2
 obtain ⟨m,hm⟩ : ∃ m,m = k + ds.length:=⟨_,rfl⟩
 have hsm : t.size = m + es.length:=by omega
 rw [← hm] at hr
 have hkm : k ≤ m:=by omega
 have hbl : bs.length = m + es.length:=by omega
 have hdl : ds.length = m - k:=by omega
 clear hsz hs hlen
 go_loopw [1] (fun a wq => ∃ i : Nat,k ≤ i∧i ≤ m∧a = .int .i64 (i : Int)∧wq = w) (fun a _ => m - (intOf a).toNat)
 case atStart => exact ⟨k,by omega,by omega,rfl,rfl⟩
 case round =>
  obtain ⟨i,hki,him,rfl,rfl⟩:=hrel
  have hA : (bs[i]?.getD 0) = ((ds ++ es)[i - k]?.getD 0):=by have:=unhide HAT (i - k); rw [show k + (i - k) = i from by omega] at this; exact this
  by_cases hjd : i < m
  ·have hb:=fun W => byte_at (unhide HT) i (by omega) 9 Tryz.underlying9 W
   rw [hA,List.getElem?_append_left (by omega)] at hb
   have hdd:=unhide HD (ds[i - k]?.getD 0) (by rw [List.getElem?_eq_getElem (by omega),Option.getD_some]; exact List.getElem_mem _)
   generalize (ds[i - k]?.getD 0).toNat = d at *
   have l1 : (i : Int) < (t.size : Int):=by omega
   have c1 : decide (48 ≤ (d : Int)) = true:=decide_eq_true (by omega)
   have c2 : decide ((d : Int) ≤ 57) = true:=decide_eq_true (by omega)
   have l2 : decide ((i : Int) < (t.size : Int)) = true:=decide_eq_true l1
   have i0 : (0 : Int) ≤ (i : Int):=by omega
   clear hA hdl hm
   go_wp2
   refine ⟨⟨i + 1,by omega,by omega,by go_num,trivial⟩,?_⟩
   simp [intOf]; omega
  ·have hje : i = m:=by omega
   subst hje
   have hE : Hid ((i : Int) = r):=(unhide hr).symm
   by_cases hes : es.length = 0
   ·have l1 : (t.size : Int) ≤ (i : Int):=by omega
    have l2 : decide ((i : Int) < (t.size : Int)) = false:=decide_eq_false (by omega)
    clear hA hdl hm hsm hbl hes hjd him hkm hki
    go_wp2
    go_ret
    exact ⟨by rw [unhide hE]; rfl,rfl⟩
   ·have hb:=fun W => byte_at (unhide HT) i (by omega) 9 Tryz.underlying9 W
    rw [hA,List.getElem?_append_right (by omega),show i - k - ds.length = 0 from by omega] at hb
    have hee:=unhide HE (es[0]?.getD 0) (by rw [List.head?_eq_getElem?,List.getElem?_eq_getElem (by omega)]; rfl)
    have l1 : (i : Int) < (t.size : Int):=by omega
    have l2 : decide ((i : Int) < (t.size : Int)) = true:=decide_eq_true l1
    have i0 : (0 : Int) ≤ (i : Int):=by omega
    generalize (es[0]?.getD 0).toNat = d at *
    clear hA hdl hm hsm hbl hes hjd him hkm hki
    rcases hee with hee | hee
    ·have c1 : decide (48 ≤ (d : Int)) = false:=decide_eq_false (by omega)
     go_wp2
     go_ret
     exact ⟨by rw [unhide hE]; rfl,rfl⟩
    ·have c1 : decide (48 ≤ (d : Int)) = true:=decide_eq_true (by omega)
     have c2 : decide ((d : Int) ≤ 57) = false:=decide_eq_false (by omega)
     go_wp2
     go_ret
     exact ⟨by rw [unhide hE]; rfl,rfl⟩
end Go.Proofs.YtndcigdphgojpaaGreatDoor
