/- The product of two whole numbers of any  -/
import Derived.RangeFuncNested
import Derived.RangeFuncBound
import Derived.RangeFuncCalls
import Derived.RangeFuncLeaves
import Derived.Shelf.Abstract
import Derived.Shelf.RegionOpen
import Derived.WalkKit
import Derived.OwnWalkIn
import Derived.TacticsInMore
import Derived.LoopNIn
import Derived.LoopIn
import Derived.Test.YtollloafckcogaaGreatDoorProg
import Derived.Test.YtollloafckcogaaGreatDoorKYN8
namespace Go.Proofs.YtollloafckcogaaGreatDoor
open Go.RowKit
set_option maxHeartbeats 4000000
set_option maxRecDepth 100000
theorem kara_sum (X Y P:Nat) (x0 x1 y0 y1:Nat) (hX:X=x0+P*x1) (hY:Y=y0+P*y1):x0*y0+P*((x0+x1)*(y0+y1)-x0*y0-x1*y1)+P*P*(x1*y1)=X*Y:=by
 have e:(x0+x1)*(y0+y1)-x0*y0-x1*y1=x0*y1+x1*y0:=by
  have:(x0+x1)*(y0+y1)=x0*y0+x1*y1+(x0*y1+x1*y0):=by grind
  omega
 rw [e,hX,hY]
 grind
theorem kara_le1 (x0 x1 y0 y1:Nat):x0*y0≤(x0+x1)*(y0+y1):=Nat.mul_le_mul (by omega) (by omega)
theorem kara_le2 (x0 x1 y0 y1:Nat):x1*y1≤(x0+x1)*(y0+y1)-x0*y0:=by
 have:(x0+x1)*(y0+y1)=x0*y0+x1*y1+(x0*y1+x1*y0):=by grind
 omega
theorem wd_len_add (X Y k:Nat) (hx:X < 18446744073709551616^k) (hy:Y < 18446744073709551616^k):(wd 18446744073709551616 (X+Y)).length≤k+1:=wd_length_le (by omega) _ _ (by rw [Nat.pow_succ];omega)
theorem vl_mid (rs xs:List Nat) (o:Nat) (hl:o+xs.length≤rs.length) (hz:∀ j,o≤j→rs[j]?.getD 0=0):vl 18446744073709551616 (rs.take o++(xs++((rs.drop o).take (rs.length-o)).drop xs.length)++rs.drop (o+(rs.length-o)))=vl 18446744073709551616 rs + 18446744073709551616^o*vl 18446744073709551616 xs:=by
 have lt:(rs.take o).length=o:=by rw [List.length_take];omega
 have e1:rs.drop (o+(rs.length-o))=[]:=List.drop_eq_nil_of_le (by omega)
 have z1:vl 18446744073709551616 (rs.drop o)=0:=vl_zeros _ _ (fun j hj=>by rw [List.getElem?_drop];exact hz _ (by omega))
 have z2:vl 18446744073709551616 (((rs.drop o).take (rs.length-o)).drop xs.length)=0:=vl_zeros _ _ (fun j hj=>by
  rw [List.getElem?_drop,List.getElem?_take]
  split
  ·rw [List.getElem?_drop];exact hz _ (by omega)
  ·rfl)
 have h1:=congrArg (vl 18446744073709551616) (List.take_append_drop o rs)
 rw [vl_append,z1,Nat.mul_zero,Nat.add_zero] at h1
 rw [e1,List.append_nil,vl_append,lt,vl_append,z2,Nat.mul_zero,Nat.add_zero,h1]
theorem zero_copy (xs:List Nat) (n j:Nat) (h:xs.length≤j):(xs++(List.replicate n 0).drop xs.length)[j]?.getD 0=0:=by
 rw [List.getElem?_append_right h,List.getElem?_drop,List.getElem?_replicate]
 split <;> rfl
theorem karatsuba_any (k:Nat) (IH:MulOK k) (va vb:Value) (X Y d:Nat) (w:World) (ha:Sl .u64 w va (wd 18446744073709551616 X)) (hb:Sl .u64 w vb (wd 18446744073709551616 Y)) (hd:2<d) (hx:d<(wd 18446744073709551616 X).length) (hxx:(wd 18446744073709551616 X).length≤2*d) (hy:d<(wd 18446744073709551616 Y).length) (hyy:(wd 18446744073709551616 Y).length≤(wd 18446744073709551616 X).length) (hk1:2*d+2≤k) (hlx:(wd 18446744073709551616 X).length<134217728) :
  Calls Tryz.prog 148 #[va,vb,.int .i64 (d:Int)] w fun e w'=>∃ v',e=.returned v'∧Sl .u64 w' v' (wd 18446744073709551616 (X*Y))∧But [] w w'∧Fresh w.heap.size v':=by
 obtain ⟨x0,ex0⟩:∃ x0,x0=X % 18446744073709551616^d:=⟨_,rfl⟩
 obtain ⟨x1,ex1⟩:∃ x1,x1=X / 18446744073709551616^d:=⟨_,rfl⟩
 obtain ⟨y0,ey0⟩:∃ y0,y0=Y % 18446744073709551616^d:=⟨_,rfl⟩
 obtain ⟨y1,ey1⟩:∃ y1,y1=Y / 18446744073709551616^d:=⟨_,rfl⟩
 have hp:0 < 18446744073709551616^d:=Nat.pow_pos (by omega)
 have bx0:x0 < 18446744073709551616^d:=by rw [ex0];exact Nat.mod_lt _ hp
 have by0:y0 < 18446744073709551616^d:=by rw [ey0];exact Nat.mod_lt _ hp
 have lx1:(wd 18446744073709551616 x1).length=(wd 18446744073709551616 X).length-d:=by rw [ex1];exact wd_len_div d X
 have ly1:(wd 18446744073709551616 y1).length=(wd 18446744073709551616 Y).length-d:=by rw [ey1];exact wd_len_div d Y
 have bx1:x1 < 18446744073709551616^d:=lt_of_wd_length (by omega) _ _ (by omega)
 have by1:y1 < 18446744073709551616^d:=lt_of_wd_length (by omega) _ _ (by omega)
 have lx0:(wd 18446744073709551616 x0).length≤d:=wd_length_le (by omega) _ _ bx0
 have ly0:(wd 18446744073709551616 y0).length≤d:=wd_length_le (by omega) _ _ by0
 have lsx:=wd_len_add x0 x1 d bx0 bx1
 have lsy:=wd_len_add y0 y1 d by0 by1
 have lp:=wd_len_mul (x0+x1) (y0+y1)
 have ll:=wd_len_mul x0 y0
 have lh:=wd_len_mul x1 y1
 have hsum:=kara_sum X Y (18446744073709551616^d) x0 x1 y0 y1 (by rw [ex0,ex1];exact (Nat.mod_add_div _ _).symm) (by rw [ey0,ey1];exact (Nat.mod_add_div _ _).symm)
 have hle1:=kara_le1 x0 x1 y0 y1
 have hle2:=kara_le2 x0 x1 y0 y1
 have hXY:=mul_lt_pow (lt_wd X) (lt_wd Y)
 have lc1:(wd 18446744073709551616 ((x0+x1)*(y0+y1)-x0*y0)).length≤(wd 18446744073709551616 ((x0+x1)*(y0+y1))).length:=wd_len_mono (Nat.sub_le _ _)
 obtain ⟨a1,c1,rfl,hc1,-⟩:=id ha
 obtain ⟨a2,c2,rfl,hc2,-⟩:=id hb
 have low1:=fun W (h:Sl .u64 W _ _)=>natLow_any (.slice a1 (wd 18446744073709551616 X).length c1) X d W h (by omega) (by omega)
 have low2:=fun W (h:Sl .u64 W _ _)=>natLow_any (.slice a2 (wd 18446744073709551616 Y).length c2) Y d W h (by omega) (by omega)
 have hi1:=fun W (h:Sl .u64 W _ _)=>natHigh_any (.slice a1 (wd 18446744073709551616 X).length c1) X d W h (by omega) (by omega)
 have hi2:=fun W (h:Sl .u64 W _ _)=>natHigh_any (.slice a2 (wd 18446744073709551616 Y).length c2) Y d W h (by omega) (by omega)
 rw [← ex0] at low1
 rw [← ey0] at low2
 rw [← ex1] at hi1
 rw [← ey1] at hi2
 have LOW1:=hide low1
 have LOW2:=hide low2
 have HI1:=hide hi1
 have HI2:=hide hi2
 have HA:=hide ha
 have HB:=hide hb
 have HIH:=hide IH
 have HSUM:=hide hsum
 have HLE1:=hide hle1
 have HLE2:=hide hle2
 have HXY:=hide hXY
 have HLEN:=hide (And.intro lx1 (And.intro ly1 (And.intro lx0 (And.intro ly0 (And.intro lsx (And.intro lsy (And.intro lp (And.intro ll (And.intro lh lc1)))))))))
 have HBND:=hide (And.intro bx0 (And.intro by0 (And.intro bx1 by1)))
 have hmk:=fun wx=>run_make64p wx (wd 18446744073709551616 X).length (wd 18446744073709551616 Y).length (by omega)
 clear low1 low2 hi1 hi2 ha hb IH hsum hle1 hle2 hXY lx1 ly1 lx0 ly0 lsx lsy lp ll lh lc1 bx0 bx1 by0 by1 hp ex0 ex1 ey0 ey1
 generalize hnx:(wd 18446744073709551616 X).length=nx at *
 generalize hny:(wd 18446744073709551616 Y).length=ny at *
 clear hnx hny
 go_enter Tryz.func148,Tryz.ntmps148
 go_wp2_with fail
 refine (unhide LOW1 _ (unhide HA)).mono ?_
 rintro e w1 ⟨vx0,rfl,hvx0,hw⟩
 obtain rfl:=hw.symm
 have HX0:=hide hvx0
 clear hw hvx0
 go_wp2_with fail
 refine (unhide HI1 _ (unhide HA)).mono ?_
 rintro e w1 ⟨vx1,rfl,hvx1,hw⟩
 obtain rfl:=hw.symm
 have HX1:=hide hvx1
 clear hw hvx1
 go_wp2_with fail
 refine (unhide LOW2 _ (unhide HB)).mono ?_
 rintro e w1 ⟨vy0,rfl,hvy0,hw⟩
 obtain rfl:=hw.symm
 have HY0:=hide hvy0
 clear hw hvy0
 go_wp2_with fail
 refine (unhide HI2 _ (unhide HB)).mono ?_
 rintro e w1 ⟨vy1,rfl,hvy1,hw⟩
 obtain rfl:=hw.symm
 have HY1:=hide hvy1
 clear hw hvy1
 go_wp2_with fail
 refine (unhide HIH vx0 vy0 x0 y0 _ (unhide HX0) (unhide HY0) (by have:=unhide HLEN;omega)).mono ?_
 rintro e w1 ⟨vl0,rfl,hvl,hb1,-⟩
 have HL:=hide hvl
 have B1:=hide hb1
 clear hvl hb1
 go_wp2_with fail
 refine (unhide HIH vx1 vy1 x1 y1 _ ((unhide HX1).but_nil (unhide B1)) ((unhide HY1).but_nil (unhide B1)) (by have:=unhide HLEN;omega)).mono ?_
 rintro e w2 ⟨vh0,rfl,hvh,hb2,-⟩
 have HH:=hide hvh
 have B2:Hid (But [] w w2):=(unhide B1).trans' hb2
 have HL2:=hide ((unhide HL).but_nil hb2)
 clear hvh hb2
 go_wp2_with fail
 refine (natAdd_any vx0 vx1 x0 x1 _ ((unhide HX0).but_nil (unhide B2)) ((unhide HX1).but_nil (unhide B2)) (by have:=unhide HLEN;omega) (by have:=unhide HLEN;omega)).mono ?_
 rintro e w3 ⟨vsx,rfl,hvsx,hb3⟩
 have HSX:=hide hvsx
 have B3:Hid (But [] w w3):=(unhide B2).trans' hb3
 have B23:=hide hb3
 clear hvsx hb3
 go_wp2_with fail
 refine (natAdd_any vy0 vy1 y0 y1 _ ((unhide HY0).but_nil (unhide B3)) ((unhide HY1).but_nil (unhide B3)) (by have:=unhide HLEN;omega) (by have:=unhide HLEN;omega)).mono ?_
 rintro e w4 ⟨vsy,rfl,hvsy,hb4⟩
 have HSY:=hide hvsy
 have B4:Hid (But [] w w4):=(unhide B3).trans' hb4
 have B24:Hid (But [] w2 w4):=(unhide B23).trans' hb4
 have HSX4:=hide ((unhide HSX).but_nil hb4)
 clear hvsy hb4
 go_wp2_with fail
 refine (unhide HIH vsx vsy (x0+x1) (y0+y1) _ (unhide HSX4) (unhide HSY) (by have:=unhide HLEN;omega)).mono ?_
 rintro e w5 ⟨vp,rfl,hvp,hb5,-⟩
 have HP:=hide hvp
 have B5:Hid (But [] w w5):=(unhide B4).trans' hb5
 have B25:Hid (But [] w2 w5):=(unhide B24).trans' hb5
 clear hvp hb5
 go_wp2_with fail
 refine (natSub_any vp vl0 _ (x0*y0) _ (unhide HP) ((unhide HL2).but_nil (unhide B25)) (by have:=unhide HLEN;omega) (unhide HLE1)).mono ?_
 rintro e w6 ⟨vc1,rfl,hvc1,hb6⟩
 have HC1:=hide hvc1
 have B6:Hid (But [] w w6):=(unhide B5).trans' hb6
 have B26:Hid (But [] w2 w6):=(unhide B25).trans' hb6
 clear hvc1 hb6
 go_wp2_with fail
 refine (natSub_any vc1 vh0 _ (x1*y1) _ (unhide HC1) ((unhide HH).but_nil (unhide B26)) (by have:=unhide HLEN;omega) (unhide HLE2)).mono ?_
 rintro e w7 ⟨vc,rfl,hvc,hb7⟩
 have HCR:=hide hvc
 have B7:Hid (But [] w w7):=(unhide B6).trans' hb7
 have B27:Hid (But [] w2 w7):=(unhide B26).trans' hb7
 clear hvc hb7 B26 B25 B24 B23 B6 B5 B4 B3 B1 HX0 HX1 HY0 HY1 HSX HSY HSX4 HP HC1 HA HB HIH LOW1 LOW2 HI1 HI2
 have hbm:=but_made w7 (nx+ny) 24
 obtain ⟨w8,hcp,HC⟩:=run_copy_seg (P:=Tryz.prog) (w7.alloc (.cells (madeCells #[.int .u64 0] (nx+ny)) 24)) 81 82 24 Tryz.underlying81 size_u64 w7.heap.size 0 (nx+ny) (nx+ny) vl0 (List.replicate (nx+ny) 0) (wd 18446744073709551616 (x0*y0)) (Seg.made _ _ _) (by simp) (((unhide HL2).but_nil (unhide B27)).but_nil hbm) (by have:=unhide HLEN;rw [List.length_replicate];omega)
 have R1:=vl_copy (wd 18446744073709551616 (x0*y0)) (nx+ny)
 have R2:=mem_copy (wd 18446744073709551616 (x0*y0)) (nx+ny) (wd_mem (by omega) _)
 have R3:=len_copy (wd 18446744073709551616 (x0*y0)) (nx+ny) (by have:=unhide HLEN;omega)
 have R4:=fun j (hj:2*d≤j)=>zero_copy (wd 18446744073709551616 (x0*y0)) (nx+ny) j (by have:=unhide HLEN;omega)
 rw [vl_wd (by omega)] at R1
 have hsg8:=(unhide HC).1
 have hb8:But [w7.heap.size] (w7.alloc (.cells (madeCells #[.int .u64 0] (nx+ny)) 24)) w8:=(unhide HC).2.but
 have B8:But [] w7 w8:=hbm.trans hb8 (fun x hx=>by simp at hx;subst hx;exact .inr (Nat.le_refl _))
 have hg8:w7.heap.size<w8.heap.size:=Nat.lt_of_lt_of_le (by simp) hb8.size
 generalize wd 18446744073709551616 (x0*y0)++(List.replicate (nx+ny) 0).drop (wd 18446744073709551616 (x0*y0)).length=r1 at *
 have hsub:=hsg8.sub (2*d) (r1.length-2*d) (by omega)
 have lsub:((r1.drop (2*d)).take (r1.length-2*d)).length=r1.length-2*d:=by rw [List.length_take,List.length_drop];omega
 obtain ⟨w9,hcp2,HC2⟩:=run_copy_seg (P:=Tryz.prog) w8 81 82 24 Tryz.underlying81 size_u64 w7.heap.size (0+2*d) (r1.length-2*d) (r1.length-2*d) vh0 ((r1.drop (2*d)).take (r1.length-2*d)) (wd 18446744073709551616 (x1*y1)) hsub lsub.symm ((unhide HH).but_nil ((unhide B27).trans' B8)) (by have:=unhide HLEN;rw [lsub];omega)
 have hS2:=hsg8.whole ((unhide HC2).2.wide (Nat.le_refl _) (n':=r1.length-2*d) (by have:=unhide HLEN;omega)) (unhide HC2).1 (by rw [List.length_append,List.length_drop,lsub];have:=unhide HLEN;omega) (by omega)
 have V2:=vl_mid r1 (wd 18446744073709551616 (x1*y1)) (2*d) (by have:=unhide HLEN;omega) (fun j hj=>R4 j hj)
 rw [vl_wd (by omega),R1] at V2
 have M2:∀ x ∈ r1.take (2*d)++(wd 18446744073709551616 (x1*y1)++((r1.drop (2*d)).take (r1.length-2*d)).drop (wd 18446744073709551616 (x1*y1)).length)++r1.drop (2*d+(r1.length-2*d)),x < 18446744073709551616:=by
  intro x hx
  simp only [List.mem_append] at hx
  rcases hx with (hx | hx | hx) | hx
  ·exact R2 x (List.mem_of_mem_take hx)
  ·exact wd_mem (by omega) _ x hx
  ·exact R2 x (List.mem_of_mem_drop (List.mem_of_mem_take (List.mem_of_mem_drop hx)))
  ·exact R2 x (List.mem_of_mem_drop hx)
 have L2:(r1.take (2*d)++(wd 18446744073709551616 (x1*y1)++((r1.drop (2*d)).take (r1.length-2*d)).drop (wd 18446744073709551616 (x1*y1)).length)++r1.drop (2*d+(r1.length-2*d))).length=nx+ny:=by
  simp only [List.length_append,List.length_take,List.length_drop]
  have:=unhide HLEN
  omega
 rw [Nat.zero_add] at hS2 hcp2
 generalize r1.take (2*d)++(wd 18446744073709551616 (x1*y1)++((r1.drop (2*d)).take (r1.length-2*d)).drop (wd 18446744073709551616 (x1*y1)).length)++r1.drop (2*d+(r1.length-2*d))=r2 at *
 have hfit:vl 18446744073709551616 r2 + 18446744073709551616^d*((x0+x1)*(y0+y1)-x0*y0-x1*y1)=X*Y:=by
  rw [V2,← unhide HSUM,Nat.two_mul,Nat.pow_add];omega
 have hb9:But [w7.heap.size] w8 w9:=(unhide HC2).2.but
 have B9:But [] w7 w9:=B8.trans hb9 (fun x hx=>by simp at hx;subst hx;exact .inr (Nat.le_refl _))
 have hadd:=addAt_any w7.heap.size d (r2.length-d) r2 ((x0+x1)*(y0+y1)-x0*y0-x1*y1) vc w9 hS2 (by omega) (Nat.le_refl _) ((unhide HCR).but_nil B9) (fun hp=>off_fresh (unhide HCR) hp _ (Nat.le_refl _)) M2 (by rw [hfit,L2];exact unhide HXY) (by omega)
 rw [L2,hfit] at hadd
 rw [R3] at hcp2
 have HADD:=hide hadd
 have HB9:Hid (But [] w w9):=(unhide B7).trans' B9
 have HGE:w.heap.size≤w7.heap.size:=(unhide B7).size
 clear hadd hfit hS2 V2 M2 L2 hb9 B9 R1 R2 R3 R4 HC HC2 hsub lsub hsg8 hb8 B8 hg8 hbm HCR HH HL HL2 HXY HSUM HLE1 HLE2 HBND HLEN B7 B27 B2
 have i1:(0:Int)≤(d:Int):=by omega
 have i2:(d:Int)<((nx+ny:Nat):Int):=by omega
 have i3:(2*(d:Int))<((nx+ny:Nat):Int):=by omega
 go_wp2_with fail
 refine (unhide HADD).mono ?_
 rintro e w10 ⟨rs2,c,rfl,hl2,hm2,hv2,hs2,hb2⟩
 have hB10:Hid (But [] w w10):=(unhide HB9).trans hb2 (fun x hx=>by simp at hx;subst hx;exact .inr HGE)
 have hsl:=hs2.sl (nx+ny) (by rw [hl2];exact Nat.le_refl _)
 rw [hl2] at hsl
 have HSL:=hide hsl
 have HM2:=hide hm2
 have HV2:=hide hv2
 have HL2:rs2.length<2147483648:=by rw [hl2];omega
 clear hsl hm2 hv2 hl2 hs2 hb2 HADD HB9
 go_wp2_with fail
 refine (trimmed_any _ rs2 _ (unhide HSL) (unhide HM2) HL2).mono ?_
 rintro e w11 ⟨v7,rfl,hv7,hw,hsb⟩
 obtain rfl:=hw.symm
 clear hw
 rw [unhide HV2] at hv7
 have HV7:=hide hv7
 have HSB:=hide hsb
 clear hv7 hsb
 go_wp2
 go_ret
 exact ⟨v7,rfl,unhide HV7,unhide hB10,fresh_of (unhide HSB) HGE⟩
theorem natMul_long (k:Nat) (X Y:Nat) (IH:40<(wd 18446744073709551616 Y).length→MulOK k) (va vb:Value) (w:World) (ha:Sl .u64 w va (wd 18446744073709551616 X)) (hb:Sl .u64 w vb (wd 18446744073709551616 Y)) (hle:(wd 18446744073709551616 Y).length≤(wd 18446744073709551616 X).length) (hk:(wd 18446744073709551616 X).length+(wd 18446744073709551616 Y).length≤k+1) (hl:(wd 18446744073709551616 X).length<134217728) (u v:Value) (huv:(u=va∧v=vb)∨((wd 18446744073709551616 Y).length<(wd 18446744073709551616 X).length∧u=vb∧v=va)) :
  Calls Tryz.prog 111 #[u,v] w fun e w'=>∃ v',e=.returned v'∧Sl .u64 w' v' (wd 18446744073709551616 (X*Y))∧But [] w w'∧(Fresh w.heap.size v'∨(v'=va∧Y=1)):=by
 obtain ⟨a1,c1,rfl,hc1,-⟩:=id ha
 obtain ⟨a2,c2,rfl,hc2,-⟩:=id hb
 by_cases h0:(wd 18446744073709551616 Y).length=0
 ·have e:Y=0:=(wd_len_zero (by omega) Y).1 h0
  subst e
  rw [Nat.mul_zero,wd_zero]
  simp only [wd_zero,List.length_nil] at *
  generalize (wd 18446744073709551616 X).length=nx at *
  clear ha hb IH
  rcases huv with ⟨rfl,rfl⟩ | ⟨hlt,rfl,rfl⟩
  all_goals
   go_enter Tryz.func111,Tryz.ntmps111
   go_wp2
   go_ret
   exact ⟨_,rfl,Sl.nil _ _,But.refl _ _,.inl fun b off n c e=>by simp at e⟩
 by_cases hY1:Y=1
 ·have HO:=hide (fun W (h:Sl .u64 W (.slice a2 (wd 18446744073709551616 Y).length c2) (wd 18446744073709551616 Y))=>natOne_any _ Y W h (by omega) true (by show true=_;rw [hY1];rfl))
  have HA:=hide ha
  have HB:=hide hb
  have HX:Hid (wd 18446744073709551616 X=wd 18446744073709551616 (X*Y)):=by show _=_;rw [hY1,Nat.mul_one]
  have HY:=hide hY1
  clear ha hb IH hY1
  generalize (wd 18446744073709551616 X).length=nx at *
  generalize (wd 18446744073709551616 Y).length=ny at *
  have n0:((ny:Int)==0)=false:=beq_eq_false_iff_ne.2 (by omega)
  rcases huv with ⟨rfl,rfl⟩ | ⟨hlt,rfl,rfl⟩
  all_goals
   go_enter Tryz.func111,Tryz.ntmps111
   go_wp2_with fail
   refine (unhide HO _ (unhide HB)).mono ?_
   rintro e w1 ⟨rfl,h⟩
   obtain rfl:=h.symm
   clear h
   go_wp2
   go_ret
   exact ⟨_,rfl,by rw [← unhide HX];exact unhide HA,But.refl _ _,.inr ⟨rfl,unhide HY⟩⟩
 ·have HO:=hide (fun W (h:Sl .u64 W (.slice a2 (wd 18446744073709551616 Y).length c2) (wd 18446744073709551616 Y))=>natOne_any _ Y W h (by omega) false (by show false=_;simp;exact hY1))
  have HBB:=hide hb
  by_cases hs:(wd 18446744073709551616 Y).length≤40
  ·have hm:=mulWords_any _ _ _ _ w ha hb (wd_mem (by omega) X) (wd_mem (by omega) Y) (by omega) (by omega) (by omega) (by omega)
   rw [vl_wd (by omega),vl_wd (by omega)] at hm
   have HM:=hide hm
   clear hm ha hb IH
   generalize (wd 18446744073709551616 X).length=nx at *
   generalize (wd 18446744073709551616 Y).length=ny at *
   have n0:((ny:Int)==0)=false:=beq_eq_false_iff_ne.2 (by omega)
   rcases huv with ⟨rfl,rfl⟩ | ⟨hlt,rfl,rfl⟩
   all_goals
    go_enter Tryz.func111,Tryz.ntmps111
    go_wp2_with fail
    refine (unhide HO _ (unhide HBB)).mono ?_
    rintro e w1 ⟨rfl,h⟩
    obtain rfl:=h.symm
    clear h
    go_wp2_with fail
    refine (unhide HM).mono ?_
    rintro e w1 ⟨v',rfl,h1,h2,h3⟩
    have H1:=hide (And.intro h1 (And.intro h2 h3))
    clear h1 h2 h3
    go_wp2
    go_ret
    exact ⟨v',rfl,(unhide H1).1,(unhide H1).2.1,.inl (unhide H1).2.2⟩
  ·obtain ⟨d,hd⟩:∃ d,d=((wd 18446744073709551616 X).length+1)/2:=⟨_,rfl⟩
   by_cases hh:(wd 18446744073709551616 Y).length≤d
   ·have hm:=mulHalves_any k (IH (by omega)) _ _ X Y d w ha hb (by omega) (by omega) (by omega) hY1 (by omega) (by omega) (by omega) (by omega)
    have HM:=hide hm
    clear hm ha hb IH
    generalize (wd 18446744073709551616 X).length=nx at *
    generalize (wd 18446744073709551616 Y).length=ny at *
    have e1:((nx:Int)+1)/2=(d:Int):=by omega
    have n0:((ny:Int)==0)=false:=beq_eq_false_iff_ne.2 (by omega)
    have h1':2*d≤nx+1:=by omega
    have h2':nx≤2*d:=by omega
    clear hd
    rcases huv with ⟨rfl,rfl⟩ | ⟨hlt,rfl,rfl⟩
    all_goals
     go_enter Tryz.func111,Tryz.ntmps111
     go_wp2_with fail
     refine (unhide HO _ (unhide HBB)).mono ?_
     rintro e w1 ⟨rfl,h⟩
     obtain rfl:=h.symm
     clear h
     go_wp2_with fail
     refine (unhide HM).mono ?_
     rintro e w1 ⟨v',rfl,h1,h2,h3⟩
     have H1:=hide (And.intro h1 (And.intro h2 h3))
     clear h1 h2 h3
     go_wp2
     go_ret
     exact ⟨v',rfl,(unhide H1).1,(unhide H1).2.1,.inl (unhide H1).2.2⟩
   ·have hm:=karatsuba_any k (IH (by omega)) _ _ X Y d w ha hb (by omega) (by omega) (by omega) (by omega) (by omega) (by omega) (by omega)
    have HM:=hide hm
    clear hm ha hb IH
    generalize (wd 18446744073709551616 X).length=nx at *
    generalize (wd 18446744073709551616 Y).length=ny at *
    have e1:((nx:Int)+1)/2=(d:Int):=by omega
    have n0:((ny:Int)==0)=false:=beq_eq_false_iff_ne.2 (by omega)
    have h1':2*d≤nx+1:=by omega
    have h2':nx≤2*d:=by omega
    clear hd
    rcases huv with ⟨rfl,rfl⟩ | ⟨hlt,rfl,rfl⟩
    all_goals
     go_enter Tryz.func111,Tryz.ntmps111
     go_wp2_with fail
     refine (unhide HO _ (unhide HBB)).mono ?_
     rintro e w1 ⟨rfl,h⟩
     obtain rfl:=h.symm
     clear h
     go_wp2_with fail
     refine (unhide HM).mono ?_
     rintro e w1 ⟨v',rfl,h1,h2,h3⟩
     have H1:=hide (And.intro h1 (And.intro h2 h3))
     clear h1 h2 h3
     go_wp2
     go_ret
     exact ⟨v',rfl,(unhide H1).1,(unhide H1).2.1,.inl (unhide H1).2.2⟩
theorem mulOK (k:Nat) (hk:k<134217728):MulOK k:=by
 induction k with
 | zero =>
  intro va vb m n w ha hb h
  have hm:(wd 18446744073709551616 m).length=0:=by omega
  have hn:(wd 18446744073709551616 n).length=0:=by omega
  exact (natMul_long 0 m n (fun h=>by omega) va vb w ha hb (by omega) (by omega) (by omega) va vb (.inl ⟨rfl,rfl⟩)).mono fun e w' ⟨v',h1,h2,h3,h4⟩=>⟨v',h1,h2,h3,h4.elim .inl fun h=>.inr (.inl h)⟩
 | succ k ih =>
  intro va vb m n w ha hb h
  rcases Nat.lt_or_ge (wd 18446744073709551616 m).length (wd 18446744073709551616 n).length with hlt | hge
  ·have:=natMul_long k n m (fun _=>ih (by omega)) vb va w hb ha (by omega) (by omega) (by omega) va vb (.inr ⟨hlt,rfl,rfl⟩)
   rw [Nat.mul_comm] at this
   exact this.mono fun e w' ⟨v',h1,h2,h3,h4⟩=>⟨v',h1,h2,h3,h4.elim .inl fun h=>.inr (.inr h)⟩
  ·exact (natMul_long k m n (fun _=>ih (by omega)) va vb w ha hb hge (by omega) (by omega) va vb (.inl ⟨rfl,rfl⟩)).mono fun e w' ⟨v',h1,h2,h3,h4⟩=>⟨v',h1,h2,h3,h4.elim .inl fun h=>.inr (.inl h)⟩
theorem natMul_any (va vb:Value) (m n:Nat) (w:World) (ha:Sl .u64 w va (wd 18446744073709551616 m)) (hb:Sl .u64 w vb (wd 18446744073709551616 n)) (hl:(wd 18446744073709551616 m).length+(wd 18446744073709551616 n).length<134217728) :
  Calls Tryz.prog 111 #[va,vb] w fun e w'=>∃ v',e=.returned v'∧Sl .u64 w' v' (wd 18446744073709551616 (m*n))∧But [] w w'∧MulAt w.heap.size v' va vb m n :=
 mulOK _ hl va vb m n w ha hb (Nat.le_refl _)
end Go.Proofs.YtollloafckcogaaGreatDoor

namespace Go.Proofs.YtollloafckcogaaGreatDoor
structure Leh (a0 b0 a b xx xy yx yy:Nat) (back:Bool):Prop where
 i1:a*yy+b*xy=a0
 i2:a*yx+b*xx=b0
 det:if back then xy*yx=xx*yy+1 else xx*yy=xy*yx+1
 le:yx≤yy
structure Good (a b xx xy yx yy:Nat):Prop where
 p1:0<xy
 p2:0<yx
 p3:xx≤xy
 p4:yy≤b
 p5:b+(xy+yy)≤a
theorem Leh.start (a b:Nat):Leh a b a b 1 0 0 1 false:=⟨by omega,by omega,by simp,by omega⟩
def Lst (a0 b0 a b xx xy yx yy:Nat) (back:Bool):Prop:=Leh a0 b0 a b xx xy yx yy back∧b≤a∧((xx=1∧xy=0∧yx=0∧yy=1)∨Good a b xx xy yx yy)
theorem Lst.yy {a0 b0 a b xx xy yx yy:Nat} {back:Bool} (h:Lst a0 b0 a b xx xy yx yy back):0<yy:=by
 obtain ⟨h1,-,h2 | h2⟩:=h
 ·omega
 ·have:=h1.le;have:=h2.p2;omega
theorem Lst.next {a0 b0 a b xx xy yx yy:Nat} {back:Bool} (h:Lst a0 b0 a b xx xy yx yy back) (q b':Nat) (e:a=q*b+b') (hb':b' < b) :
  Leh a0 b0 b b' yx yy (xx+q*yx) (xy+q*yy) (!back)∧0<xx+q*yx∧yx≤yy:=by
 obtain ⟨h1,hba,h2⟩:=h
 have hq:1≤q:=by
  rcases Nat.eq_zero_or_pos q with h0 | h0
  ·subst h0;omega
  ·exact h0
 have hle:xx+q*yx≤xy+q*yy:=by
  rcases h2 with h2 | h2
  ·obtain ⟨rfl,rfl,rfl,rfl⟩:=h2;omega
  ·exact Nat.add_le_add h2.p3 (Nat.mul_le_mul_left _ h1.le)
 have hp:0<xx+q*yx:=by
  rcases h2 with h2 | h2
  ·omega
  ·have:=Nat.mul_le_mul hq h2.p2;omega
 refine ⟨⟨?_,?_,?_,hle⟩,hp,h1.le⟩
 ·rw [← h1.i1,e];grind
 ·rw [← h1.i2,e];grind
 ·have:=h1.det
  cases back <;> simp at this ⊢ <;> grind
theorem Leh.bound {a0 b0 a b xx xy yx yy:Nat} {back:Bool} (h:Leh a0 b0 a b xx xy yx yy back) (ha:0<a):yy≤a0∧yx≤b0:=by
 have h1:=h.i1
 have h2:=h.i2
 have h3:=Nat.mul_le_mul_right yy ha
 have h4:=Nat.mul_le_mul_right yx ha
 omega
theorem Leh.bound2 {a0 b0 a b xx xy yx yy:Nat} {back:Bool} (h:Leh a0 b0 a b xx xy yx yy back) (ha:0<a) (hb:0<b):xy+yy≤a0:=by
 have h1:=h.i1
 have h3:=Nat.mul_le_mul_right yy ha
 have h4:=Nat.mul_le_mul_right xy hb
 omega
theorem Lst.taken {a0 b0 a b xx xy yx yy:Nat} {back:Bool} (h:Lst a0 b0 a b xx xy yx yy back) (q b':Nat) (e:a=q*b+b') (hb':b' < b) (c1:xy+q*yy≤b') (c2:yy+(xy+q*yy)≤b-b'):Lst a0 b0 b b' yx yy (xx+q*yx) (xy+q*yy) (!back):=by
 obtain ⟨n1,n2,n3⟩:=h.next q b' e hb'
 exact ⟨n1,by omega,.inr ⟨h.yy,n2,n3,c1,by omega⟩⟩
theorem gcd_two (x y X Y p q r s:Nat) (hx:X*p+Y*q=x) (hy:X*r+Y*s=y) (hd:∀ d,d ∣ x→d ∣ y→d ∣ X∧d ∣ Y):Nat.gcd X Y=Nat.gcd x y:=by
 apply Nat.dvd_antisymm
 ·apply Nat.dvd_gcd
  ·rw [← hx];exact Nat.dvd_add (Nat.dvd_mul_right_of_dvd (Nat.gcd_dvd_left _ _) _) (Nat.dvd_mul_right_of_dvd (Nat.gcd_dvd_right _ _) _)
  ·rw [← hy];exact Nat.dvd_add (Nat.dvd_mul_right_of_dvd (Nat.gcd_dvd_left _ _) _) (Nat.dvd_mul_right_of_dvd (Nat.gcd_dvd_right _ _) _)
 ·obtain ⟨h1,h2⟩:=hd _ (Nat.gcd_dvd_left x y) (Nat.gcd_dvd_right x y)
  exact Nat.dvd_gcd h1 h2
theorem Leh.apply {a0 b0 a b xx xy yx yy:Nat} {back:Bool} (h:Leh a0 b0 a b xx xy yx yy back) (g:Good a b xx xy yx yy) (x y K ε δ:Nat) (hx:x=a0*K+ε) (hy:y=b0*K+δ) (hε:ε<K) (hδ:δ<K) :
  ∃ X Y:Nat,(if back then X+xx*x=xy*y∧Y+yy*y=yx*x else X+xy*y=xx*x∧Y+yx*x=yy*y)∧Y<X∧X≤y∧Nat.gcd X Y=Nat.gcd x y:=by
 obtain ⟨i1,i2,det,le⟩:=h
 obtain ⟨p1,p2,p3,p4,p5⟩:=g
 have m1:yy*δ≤b*K:=Nat.mul_le_mul p4 (Nat.le_of_lt hδ)
 have m2:yx*ε≤b*K:=Nat.mul_le_mul (Nat.le_trans le p4) (Nat.le_of_lt hε)
 have m3:(xy+yy)*(δ+1)≤(a-b)*K:=Nat.mul_le_mul (by omega) hδ
 have m4:(xx+yx)*(ε+1)≤(a-b)*K:=Nat.mul_le_mul (by omega) hε
 have m5:(a-b)*K+b*K=a*K:=by rw [← Nat.add_mul];congr 1;omega
 cases back
 ·simp only [Bool.false_eq_true,if_false] at det ⊢
  have e1:yy*b0=yx*a0+b:=by rw [← i1,← i2];grind
  have e2:xx*a0=xy*b0+a:=by rw [← i1,← i2];grind
  have f1:yy*y=yx*a0*K+b*K+yy*δ:=by rw [hy];grind
  have f2:yx*x=yx*a0*K+yx*ε:=by rw [hx];grind
  have f3:xx*x=xy*b0*K+a*K+xx*ε:=by rw [hx];grind
  have f4:xy*y=xy*b0*K+xy*δ:=by rw [hy];grind
  have g1:(xy+yy)*(δ+1)=xy*δ+yy*δ+xy+yy:=by grind
  obtain ⟨Y,hY⟩:∃ Y,Y+yx*x=yy*y:=⟨yy*y-yx*x,by omega⟩
  obtain ⟨X,hX⟩:∃ X,X+xy*y=xx*x:=⟨xx*x-xy*y,by omega⟩
  have hYX:Y<X:=by omega
  have hx2:X*yy+Y*xy=x:=by
   have:X*yy+Y*xy+xy*y*yy+yx*x*xy=xx*x*yy+yy*y*xy:=by rw [← hX,← hY];grind
   have e:xx*x*yy=(xy*yx+1)*x:=by rw [← det];grind
   grind
  have hy2:X*yx+Y*xx=y:=by
   have:X*yx+Y*xx+xy*y*yx+yx*x*xx=xx*x*yx+yy*y*xx:=by rw [← hX,← hY];grind
   have e:yy*y*xx=(xy*yx+1)*y:=by rw [← det];grind
   grind
  refine ⟨X,Y,⟨hX,hY⟩,hYX,?_,gcd_two x y X Y yy xy yx xx hx2 hy2 (fun d d1 d2=>⟨?_,?_⟩)⟩
  ·rw [← hy2];have:=Nat.le_mul_of_pos_right X p2;omega
  ·exact (Nat.dvd_add_left (Nat.dvd_mul_left_of_dvd d2 xy)).1 (by rw [hX];exact Nat.dvd_mul_left_of_dvd d1 xx)
  ·exact (Nat.dvd_add_left (Nat.dvd_mul_left_of_dvd d1 yx)).1 (by rw [hY];exact Nat.dvd_mul_left_of_dvd d2 yy)
 ·simp only [if_true] at det ⊢
  have e1:yx*a0=yy*b0+b:=by rw [← i1,← i2];grind
  have e2:xy*b0=xx*a0+a:=by rw [← i1,← i2];grind
  have f1:yx*x=yy*b0*K+b*K+yx*ε:=by rw [hx];grind
  have f2:yy*y=yy*b0*K+yy*δ:=by rw [hy];grind
  have f3:xy*y=xx*a0*K+a*K+xy*δ:=by rw [hy];grind
  have f4:xx*x=xx*a0*K+xx*ε:=by rw [hx];grind
  have g1:(xx+yx)*(ε+1)=xx*ε+yx*ε+xx+yx:=by grind
  obtain ⟨Y,hY⟩:∃ Y,Y+yy*y=yx*x:=⟨yx*x-yy*y,by omega⟩
  obtain ⟨X,hX⟩:∃ X,X+xx*x=xy*y:=⟨xy*y-xx*x,by omega⟩
  have hYX:Y<X:=by omega
  have hx2:X*yy+Y*xy=x:=by
   have:X*yy+Y*xy+xx*x*yy+yy*y*xy=xy*y*yy+yx*x*xy:=by rw [← hX,← hY];grind
   have e:yx*x*xy=(xx*yy+1)*x:=by rw [← det];grind
   grind
  have hy2:X*yx+Y*xx=y:=by
   have:X*yx+Y*xx+xx*x*yx+yy*y*xx=xy*y*yx+yx*x*xx:=by rw [← hX,← hY];grind
   have e:xy*y*yx=(xx*yy+1)*y:=by rw [← det];grind
   grind
  refine ⟨X,Y,⟨hX,hY⟩,hYX,?_,gcd_two x y X Y yy xy yx xx hx2 hy2 (fun d d1 d2=>⟨?_,?_⟩)⟩
  ·rw [← hy2];have:=Nat.le_mul_of_pos_right X p2;omega
  ·exact (Nat.dvd_add_left (Nat.dvd_mul_left_of_dvd d1 xx)).1 (by rw [hX];exact Nat.dvd_mul_left_of_dvd d2 xy)
  ·exact (Nat.dvd_add_left (Nat.dvd_mul_left_of_dvd d2 yy)).1 (by rw [hY];exact Nat.dvd_mul_left_of_dvd d1 yx)
theorem mod_same_of (M a b u v:Nat) (ha:a<M) (hb:b<M) (e:a+M*u=b+M*v):a=b:=by
 have h1:(a+M*u)%M=a:=by rw [Nat.add_mul_mod_self_left,Nat.mod_eq_of_lt ha]
 have h2:(b+M*v)%M=b:=by rw [Nat.add_mul_mod_self_left,Nat.mod_eq_of_lt hb]
 rw [← h1,← h2,e]
theorem lead_split (x1 x0 m n l:Nat) (hn:n≤63) (hl:l < 18446744073709551616^m):∃ ε,l + 18446744073709551616^m*(x0 + 18446744073709551616*x1)=(x1*2^n+x0/2^(64-n))*(2^(64-n) * 18446744073709551616^m)+ε∧ε<2^(64-n) * 18446744073709551616^m:=by
 have hp:18446744073709551616=2^n*2^(64-n):=by rw [← Nat.pow_add,show n+(64-n)=64 from by omega]
 have h1:=Nat.div_add_mod x0 (2^(64-n))
 have h2:x0%2^(64-n)+1≤2^(64-n):=Nat.mod_lt _ (Nat.pow_pos (by omega))
 refine ⟨x0%2^(64-n) * 18446744073709551616^m+l,?_,?_⟩
 ·have h3:x0 + 18446744073709551616*x1=(x1*2^n+x0/2^(64-n))*2^(64-n)+x0%2^(64-n):=by
   conv=>lhs;rw [← h1]
   rw [hp]
   generalize 2^(64-n)=P
   generalize 2^n=Q
   grind
  rw [h3]
  generalize (x1*2^n+x0/2^(64-n))=A
  generalize 2^(64-n)=P
  generalize x0%P=r
  generalize 18446744073709551616^m=M
  grind
 ·have h3:=Nat.mul_le_mul_right (18446744073709551616^m) h2
  rw [Nat.add_mul,Nat.one_mul] at h3
  omega
theorem lead_le (a b K ε δ X Y:Nat) (hX:X=a*K+ε) (hY:Y=b*K+δ) (hε:ε<K) (hle:Y≤X):b≤a:=by
 rcases Nat.lt_or_ge a b with h | h
 ·exfalso
  have:=Nat.mul_le_mul_right K h
  rw [Nat.succ_mul] at this
  omega
 ·exact h
structure TakeInv (ps qs ps' qs':List Nat) (c1 c2 c3 c4 k up dn lf rt bo ow:Nat):Prop where
 lp:ps'.length=ps.length
 lq:qs'.length=qs.length
 mp:∀ x ∈ ps',x < 18446744073709551616
 mq:∀ x ∈ qs',x < 18446744073709551616
 dp:ps'.drop k=ps.drop k
 dq:qs'.drop k=qs.drop k
 v1:vl 18446744073709551616 (ps'.take k)+c2*vl 18446744073709551616 (qs.take k)+up * 18446744073709551616^k=c1*vl 18446744073709551616 (ps.take k)+(dn+bo) * 18446744073709551616^k
 v2:vl 18446744073709551616 (qs'.take k)+c3*vl 18446744073709551616 (ps.take k)+rt * 18446744073709551616^k=c4*vl 18446744073709551616 (qs.take k)+(lf+ow) * 18446744073709551616^k
theorem TakeInv.start (ps qs:List Nat) (c1 c2 c3 c4:Nat) (hp:∀ x ∈ ps,x < 18446744073709551616) (hq:∀ x ∈ qs,x < 18446744073709551616):TakeInv ps qs ps qs c1 c2 c3 c4 0 0 0 0 0 0 0 :=
 ⟨rfl,rfl,hp,hq,rfl,rfl,by simp [vl],by simp [vl]⟩
theorem drop_get (xs ys:List Nat) (k:Nat) (h:xs.drop k=ys.drop k):xs[k]?.getD 0=ys[k]?.getD 0:=by
 have:=congrArg (fun l:List Nat=>l[0]?.getD 0) h
 simpa [List.getElem?_drop] using this
theorem take_set (rs:List Nat) (k s:Nat) (h:k<rs.length):(rs.set k s).take (k+1)=rs.take k++[s]:=by
 rw [take_snoc_getD _ k (by rw [List.length_set];exact h),List.getElem?_set_self h,List.take_set_of_le (Nat.le_refl k)];rfl
theorem drop_set' (rs:List Nat) (k s:Nat):(rs.set k s).drop (k+1)=rs.drop (k+1):=List.drop_set_of_lt (by omega)
theorem vl_snoc (rs:List Nat) (k s:Nat) (h:k<rs.length):vl 18446744073709551616 ((rs.set k s).take (k+1))=vl 18446744073709551616 (rs.take k)+s * 18446744073709551616^k:=by
 rw [take_set rs k s h,vl_append,vl,vl,List.length_take,Nat.min_eq_left (by omega)]
 simp [Nat.mul_comm]
theorem TakeInv.step {ps qs ps' qs':List Nat} {c1 c2 c3 c4 k up dn lf rt bo ow:Nat} (h:TakeInv ps qs ps' qs' c1 c2 c3 c4 k up dn lf rt bo ow) (hk:k<ps.length) (hl:ps.length=qs.length) (s1 s2 up' dn' lf' rt' bo' ow' p1 m1 p2 m2:Nat) (hs1:s1 < 18446744073709551616) (hs2:s2 < 18446744073709551616)
  (e1:c1*ps[k]?.getD 0+up=p1 + 18446744073709551616*up') (e2:c2*qs[k]?.getD 0+dn=m1 + 18446744073709551616*dn') (e3:s1+m1+bo=p1 + 18446744073709551616*bo')
  (e4:c4*qs[k]?.getD 0+rt=p2 + 18446744073709551616*rt') (e5:c3*ps[k]?.getD 0+lf=m2 + 18446744073709551616*lf') (e6:s2+m2+ow=p2 + 18446744073709551616*ow') :
  TakeInv ps qs (ps'.set k s1) (qs'.set k s2) c1 c2 c3 c4 (k+1) up' dn' lf' rt' bo' ow':=by
 have a1:=h.lp
 have a2:=h.lq
 have d1:ps'.drop (k+1)=ps.drop (k+1):=by have:=congrArg (List.drop 1) h.dp;rwa [List.drop_drop,List.drop_drop] at this
 have d2:qs'.drop (k+1)=qs.drop (k+1):=by have:=congrArg (List.drop 1) h.dq;rwa [List.drop_drop,List.drop_drop] at this
 refine ⟨by rw [List.length_set];exact a1,by rw [List.length_set];exact a2,mem_set h.mp _ _ hs1,mem_set h.mq _ _ hs2,by rw [drop_set'];exact d1,by rw [drop_set'];exact d2,?_,?_⟩
 ·rw [vl_snoc _ _ _ (by omega),vl_take_succ 18446744073709551616 qs k (by omega),vl_take_succ 18446744073709551616 ps k hk,Nat.pow_succ]
  have hv:=h.v1
  generalize vl 18446744073709551616 (ps'.take k)=A at *
  generalize vl 18446744073709551616 (qs.take k)=Q at *
  generalize vl 18446744073709551616 (ps.take k)=P at *
  generalize 18446744073709551616^k=M at *
  generalize ps[k]?.getD 0=a at *
  generalize qs[k]?.getD 0=b at *
  have f:(s1+c2*b + 18446744073709551616*up' + dn+bo)*M=(c1*a + 18446744073709551616*dn' + 18446744073709551616*bo' + up)*M:=by congr 1;omega
  grind
 ·rw [vl_snoc _ _ _ (by omega),vl_take_succ 18446744073709551616 qs k (by omega),vl_take_succ 18446744073709551616 ps k hk,Nat.pow_succ]
  have hv:=h.v2
  generalize vl 18446744073709551616 (qs'.take k)=A at *
  generalize vl 18446744073709551616 (qs.take k)=Q at *
  generalize vl 18446744073709551616 (ps.take k)=P at *
  generalize 18446744073709551616^k=M at *
  generalize ps[k]?.getD 0=a at *
  generalize qs[k]?.getD 0=b at *
  have f:(s2+c3*a + 18446744073709551616*rt' + lf+ow)*M=(c4*b + 18446744073709551616*lf' + 18446744073709551616*ow' + rt)*M:=by congr 1;omega
  grind
theorem TakeInv.fin {ps qs ps' qs':List Nat} {c1 c2 c3 c4 up dn lf rt bo ow:Nat} (h:TakeInv ps qs ps' qs' c1 c2 c3 c4 ps.length up dn lf rt bo ow) (hl:ps.length=qs.length) (P' Q' X Y hp hq:Nat)
  (eP:P'=vl 18446744073709551616 ps + 18446744073709551616^ps.length*hp) (eQ:Q'=vl 18446744073709551616 qs + 18446744073709551616^ps.length*hq) (eX:X+c2*Q'=c1*P') (eY:Y+c3*P'=c4*Q') (hX:X < 18446744073709551616^ps.length) (hY:Y < 18446744073709551616^ps.length):vl 18446744073709551616 ps'=X∧vl 18446744073709551616 qs'=Y:=by
 have h1:=h.v1
 have h2:=h.v2
 have b1:=vl_lt (by omega:0 < 18446744073709551616) ps' h.mp
 have b2:=vl_lt (by omega:0 < 18446744073709551616) qs' h.mq
 have a1:=h.lp
 have a2:=h.lq
 rw [a1] at b1
 rw [a2,← hl] at b2
 rw [List.take_of_length_le (by omega),List.take_of_length_le (by omega),List.take_of_length_le (by omega)] at h1 h2
 generalize 18446744073709551616^ps.length=M at *
 generalize vl 18446744073709551616 ps'=A at *
 generalize vl 18446744073709551616 qs'=C at *
 generalize vl 18446744073709551616 ps=P at *
 generalize vl 18446744073709551616 qs=Q at *
 subst eP eQ
 exact ⟨mod_same_of M A X (up+c1*hp) (dn+bo+c2*hq) b1 hX (by grind),mod_same_of M C Y (rt+c4*hq) (lf+ow+c3*hp) b2 hY (by grind)⟩
end Go.Proofs.YtollloafckcogaaGreatDoor

namespace Go.Proofs.YtollloafckcogaaGreatDoor
open Go.RowKit Go.Shelf
set_option maxHeartbeats 4000000
set_option maxRecDepth 100000
attribute [local go_sem] Oper.semAt_some
def downs (len k:Nat):List (Fin len):=((List.finRange len).drop k).reverse
theorem downs_end (len:Nat):downs len len=[]:=by unfold downs;rw [List.drop_eq_nil_of_le (by simp)];rfl
theorem downs_next (len k:Nat) (h:k<len):downs len k=downs len (k+1)++[⟨k,h⟩]:=by
 unfold downs
 rw [List.drop_eq_getElem_cons (by simpa using h),List.reverse_cons]
 simp
theorem downs_length (len k:Nat):(downs len k).length=len-k:=by unfold downs;simp
def Kept (n₀ g:Nat) (A B:World):Prop:=∀ k,k<n₀→k≠g→B.heap[k]? = A.heap[k]?
theorem Kept.refl (n₀ g:Nat) (A:World):Kept n₀ g A A:=fun _ _ _=>rfl
theorem Kept.trans {n₀ g:Nat} {A B C:World} (h:Kept n₀ g A B) (k:Kept n₀ g B C):Kept n₀ g A C:=fun i h1 h2=>(k i h1 h2).trans (h i h1 h2)
theorem Kept.cell {n₀ g:Nat} {A B:World} (h:Kept n₀ g A B) {p:Addr} (hp:p.block<n₀) (hn:p.block≠g):B.cell? p=A.cell? p:=World.cell?_of_block (w:=A) (h p.block hp hn)
theorem Kept.put {n₀ g:Nat} (W:World) (l:Nat) (o:Obj) (hl:n₀≤l):Kept n₀ g W (W.putObj l o):=fun k hk _=>World.putObj_heap_other (by omega)
theorem back1_in (F:Fence) (n:Nat) (hf:F.fn 142) (hro:F.round=none) (hn:1≤n) (l Bs n₀ g b off len cap:Nat) (S:Nat→Bool) (X Y:Nat→Int) (Q:Nat→Option Addr) (hreach:len≤1000000) (hb:b<n₀) (hbg:b≠g) (J Jx:List (Fin len)→World→Prop)
  (hY:∀ pre (x:Fin len) W,J pre W→pre.length<len→YieldAt F (n-1) Tryz.prog l #[.int .i64 ((x.1:Nat):Int),.agg #[.bool (S x.1),.int .u64 (X x.1),.int .u64 (Y x.1),.pointer (Q x.1)]] W fun e W' =>
   (e=.returned (.bool true)∧J (pre++[x]) W'∧Kept n₀ g W W')∨(e=.returned (.bool false)∧Jx (pre++[x]) W'))
  (W:World) (hBs:W.cell? ⟨Bs,0,none⟩=some (.slice (some ⟨b,off,none⟩) len cap)) (hBn:Bs<n₀) (hBg:Bs≠g)
  (hc:∀ j,j<len→W.cell? ⟨b,off+j*4,none⟩=some (.bool (S j))∧W.cell? ⟨b,off+j*4+1,none⟩=some (.int .u64 (X j))∧W.cell? ⟨b,off+j*4+2,none⟩=some (.int .u64 (Y j))∧W.cell? ⟨b,off+j*4+3,none⟩=some (.pointer (Q j))) (h0:J [] W) :
  CallsIn F n Tryz.prog 142 #[.func (.yield l) #[] #[],.pointer (some ⟨Bs,0,none⟩)] W fun e W'=>(∃ v,e=.returned v) ∧
   ((∃ ys,ys=downs len 0∧J ys W')∨(∃ pre,True∧Jx pre W')):=by
 refine callsIn_of_wp Tryz.func142 rfl hf ?_ hro
 simp only [Tryz.ntmps142,List.size_toArray,List.length_cons,List.length_nil,Nat.reduceAdd,Nat.reduceSub,Array.replicate_succ,Array.replicate_zero,List.push_toArray,List.append_toArray,List.nil_append,List.cons_append]
 gi_wp2
 gi_loopw [3] (fun i wr=>∃ k:Nat,k≤len∧i=.int .i64 ((k:Int)-1)∧J (downs len k) wr∧Kept n₀ g W wr) (fun i _=>(intOf i+1).toNat)
 case atStart=>exact ⟨len,Nat.le_refl _,rfl,by rw [downs_end];exact h0,Kept.refl _ _ _⟩
 case round =>
  obtain ⟨k,hk,rfl,hJs,hnx⟩:=hrel
  by_cases hlt:k=0
  ·subst hlt
   gi_wp2
   go_end0
   exact ⟨⟨_,rfl⟩,.inl ⟨_,rfl,hJs⟩⟩
  ·obtain ⟨j,rfl⟩:∃ j,k=j+1:=⟨k-1,by omega⟩
   rw [show (((j+1:Nat):Int)-1)=(j:Int) from by omega]
   obtain ⟨fn,tmps,assign,body,hy,hR⟩:=hY _ ⟨j,by omega⟩ wr hJs (by rw [downs_length];omega)
   dsimp only at hy
   obtain ⟨c0,c1,c2,c3⟩:=hc j (by omega)
   have c0':=(hnx.cell (p:=⟨b,off+j*4,none⟩) hb hbg).trans c0
   have c1':=(hnx.cell (p:=⟨b,off+j*4+1,none⟩) hb hbg).trans c1
   have c2':=(hnx.cell (p:=⟨b,off+j*4+2,none⟩) hb hbg).trans c2
   have c3':=(hnx.cell (p:=⟨b,off+j*4+3,none⟩) hb hbg).trans c3
   have hBs':=(hnx.cell (p:=⟨Bs,0,none⟩) hBn hBg).trans hBs
   clear hc c0 c1 c2 c3
   gi_wp2
   refine hR.mono ?_
   rintro e W3 (⟨rfl,hJ3,hk3⟩ | ⟨rfl,hJx3⟩)
   ·gi_wp2
    go_roundw
    case rel=>exact ⟨j,by omega,by simp,by rw [downs_next len j (by omega)];exact hJ3,hnx.trans hk3⟩
    case measure=>simp [intOf]
   ·gi_wp2
    refine bodyPost_ret (results_none rfl _ _ _) rfl ?_
    exact ⟨⟨_,rfl⟩,.inr ⟨_,trivial,hJx3⟩⟩
theorem back_stops (F:Fence) (n:Nat) (hf:F.fn 142) (hro:F.round=none) (hn:1≤n) (Bs n₀ g b off len cap:Nat) (S:Nat→Bool) (X Y:Nat→Int) (Q:Nat→Option Addr) (hreach:len≤1000000) (w:World) (hb:b<n₀) (hbg:b≠g) (hn₀:n₀≤w.heap.size)
  (hBs:w.cell? ⟨Bs,0,none⟩=some (.slice (some ⟨b,off,none⟩) len cap)) (hBn:Bs<n₀) (hBg:Bs≠g)
  (hc:∀ j,j<len→w.cell? ⟨b,off+j*4,none⟩=some (.bool (S j))∧w.cell? ⟨b,off+j*4+1,none⟩=some (.int .u64 (X j))∧w.cell? ⟨b,off+j*4+2,none⟩=some (.int .u64 (Y j))∧w.cell? ⟨b,off+j*4+3,none⟩=some (.pointer (Q j))) :
  SeqStopsK F n Tryz.prog 142 #[.pointer (some ⟨Bs,0,none⟩)] (fun x:Fin len=>#[.int .i64 ((x.1:Nat):Int),.agg #[.bool (S x.1),.int .u64 (X x.1),.int .u64 (Y x.1),.pointer (Q x.1)]]) (Kept n₀ g) (fun ys=>ys=downs len 0) (fun _=>True) len w:=fun l J Jx W hW _ _ hY h0 =>
 back1_in F n hf hro hn l Bs n₀ g b off len cap S X Y Q hreach hb hbg J Jx hY W ((hW.cell (p:=⟨Bs,0,none⟩) (by show Bs<_;omega)).trans hBs) hBn hBg (fun j hj=>by
  obtain ⟨c0,c1,c2,c3⟩:=hc j hj
  have hbl:b<w.heap.size:=by omega
  exact ⟨(hW.cell (p:=⟨b,off+j*4,none⟩) hbl).trans c0,(hW.cell (p:=⟨b,off+j*4+1,none⟩) hbl).trans c1,(hW.cell (p:=⟨b,off+j*4+2,none⟩) hbl).trans c2,(hW.cell (p:=⟨b,off+j*4+3,none⟩) hbl).trans c3⟩) h0
theorem back_in (F:Fence) (n:Nat) (hf:F.fn 106) (hro:F.round=none) (a:Option Addr) (len cap:Nat) (w:World) :
  CallsIn F n Tryz.prog 106 #[.slice a len cap] w fun e w'=>e=.returned (.func (.func 142) #[] #[.pointer (some ⟨w.heap.size,0,none⟩)])∧w'=w.alloc (.cells #[.slice a len cap] 42):=by
 refine callsIn_of_wp Tryz.func106 rfl hf ?_ hro
 simp only [Tryz.ntmps106,List.size_toArray,List.length_cons,List.length_nil,Nat.reduceAdd,Nat.reduceSub,Array.replicate_succ,Array.replicate_zero,List.push_toArray,List.append_toArray,List.nil_append,List.cons_append]
 gi_wp2
 go_ret
 exact ⟨rfl,rfl⟩
end Go.Proofs.YtollloafckcogaaGreatDoor
