/- The product of two whole numbers of any  -/
import Derived.Shelf.Strconv.Itoa1
import Derived.Shelf.LaysM
import Derived.Shelf.Strconv.Itoa2
import Derived.Shelf.Small.Bits
import Derived.Test.YtpfnnhjnakmnoaaGreatDoorProg
import Derived.Laws.Bits64b
import Derived.Lib.ItoaNum
import Derived.Test.YtpfnnhjnakmnoaaGreatDoorKMN8
namespace Go.Proofs.YtpfnnhjnakmnoaaGreatDoor
open Go.RowKit
set_option maxHeartbeats 4000000
set_option maxRecDepth 100000
theorem kara_sum (X Y P:Nat) (x0 x1 y0 y1:Nat) (hX:X=x0+P*x1) (hY:Y=y0+P*y1):x0*y0+P*((x0+x1)*(y0+y1)-x0*y0-x1*y1)+P*P*(x1*y1)=X*Y:=by
 have e:(x0+x1)*(y0+y1)-x0*y0-x1*y1=x0*y1+x1*y0:=by
  have:(x0+x1)*(y0+y1)=x0*y0+x1*y1+(x0*y1+x1*y0):=by grind
  omega
 rw [e,hX,hY]
 grind
theorem kara_le1 (x0 x1 y0 y1:Nat):x0*y0≤(x0+x1)*(y0+y1):=Nat.mul_le_mul (by omega) (by omega)
theorem kara_le2 (x0 x1 y0 y1:Nat):x1*y1≤(x0+x1)*(y0+y1)-x0*y0:=by
 have:(x0+x1)*(y0+y1)=x0*y0+x1*y1+(x0*y1+x1*y0):=by grind
 omega
theorem wd_len_add (X Y k:Nat) (hx:X < 18446744073709551616^k) (hy:Y < 18446744073709551616^k):(wd 18446744073709551616 (X+Y)).length≤k+1:=wd_length_le (by omega) _ _ (by rw [Nat.pow_succ];omega)
theorem vl_mid (rs xs:List Nat) (o:Nat) (hl:o+xs.length≤rs.length) (hz:∀ j,o≤j→rs[j]?.getD 0=0):vl 18446744073709551616 (rs.take o++(xs++((rs.drop o).take (rs.length-o)).drop xs.length)++rs.drop (o+(rs.length-o)))=vl 18446744073709551616 rs + 18446744073709551616^o*vl 18446744073709551616 xs:=by
 have lt:(rs.take o).length=o:=by rw [List.length_take];omega
 have e1:rs.drop (o+(rs.length-o))=[]:=List.drop_eq_nil_of_le (by omega)
 have z1:vl 18446744073709551616 (rs.drop o)=0:=vl_zeros _ _ (fun j hj=>by rw [List.getElem?_drop];exact hz _ (by omega))
 have z2:vl 18446744073709551616 (((rs.drop o).take (rs.length-o)).drop xs.length)=0:=vl_zeros _ _ (fun j hj=>by
  rw [List.getElem?_drop,List.getElem?_take]
  split
  ·rw [List.getElem?_drop];exact hz _ (by omega)
  ·rfl)
 have h1:=congrArg (vl 18446744073709551616) (List.take_append_drop o rs)
 rw [vl_append,z1,Nat.mul_zero,Nat.add_zero] at h1
 rw [e1,List.append_nil,vl_append,lt,vl_append,z2,Nat.mul_zero,Nat.add_zero,h1]
theorem zero_copy (xs:List Nat) (n j:Nat) (h:xs.length≤j):(xs++(List.replicate n 0).drop xs.length)[j]?.getD 0=0:=by
 rw [List.getElem?_append_right h,List.getElem?_drop,List.getElem?_replicate]
 split <;> rfl
theorem karatsuba_any (k:Nat) (IH:MulOK k) (va vb:Value) (X Y d:Nat) (w:World) (ha:Sl .u64 w va (wd 18446744073709551616 X)) (hb:Sl .u64 w vb (wd 18446744073709551616 Y)) (hd:2<d) (hx:d<(wd 18446744073709551616 X).length) (hxx:(wd 18446744073709551616 X).length≤2*d) (hy:d<(wd 18446744073709551616 Y).length) (hyy:(wd 18446744073709551616 Y).length≤(wd 18446744073709551616 X).length) (hk1:2*d+2≤k) (hlx:(wd 18446744073709551616 X).length<134217728) :
  Calls Tryz.prog 168 #[va,vb,.int .i64 (d:Int)] w fun e w'=>∃ v',e=.returned v'∧Sl .u64 w' v' (wd 18446744073709551616 (X*Y))∧But [] w w'∧Fresh w.heap.size v':=by
 obtain ⟨x0,ex0⟩:∃ x0,x0=X % 18446744073709551616^d:=⟨_,rfl⟩
 obtain ⟨x1,ex1⟩:∃ x1,x1=X / 18446744073709551616^d:=⟨_,rfl⟩
 obtain ⟨y0,ey0⟩:∃ y0,y0=Y % 18446744073709551616^d:=⟨_,rfl⟩
 obtain ⟨y1,ey1⟩:∃ y1,y1=Y / 18446744073709551616^d:=⟨_,rfl⟩
 have hp:0 < 18446744073709551616^d:=Nat.pow_pos (by omega)
 have bx0:x0 < 18446744073709551616^d:=by rw [ex0];exact Nat.mod_lt _ hp
 have by0:y0 < 18446744073709551616^d:=by rw [ey0];exact Nat.mod_lt _ hp
 have lx1:(wd 18446744073709551616 x1).length=(wd 18446744073709551616 X).length-d:=by rw [ex1];exact wd_len_div d X
 have ly1:(wd 18446744073709551616 y1).length=(wd 18446744073709551616 Y).length-d:=by rw [ey1];exact wd_len_div d Y
 have bx1:x1 < 18446744073709551616^d:=lt_of_wd_length (by omega) _ _ (by omega)
 have by1:y1 < 18446744073709551616^d:=lt_of_wd_length (by omega) _ _ (by omega)
 have lx0:(wd 18446744073709551616 x0).length≤d:=wd_length_le (by omega) _ _ bx0
 have ly0:(wd 18446744073709551616 y0).length≤d:=wd_length_le (by omega) _ _ by0
 have lsx:=wd_len_add x0 x1 d bx0 bx1
 have lsy:=wd_len_add y0 y1 d by0 by1
 have lp:=wd_len_mul (x0+x1) (y0+y1)
 have ll:=wd_len_mul x0 y0
 have lh:=wd_len_mul x1 y1
 have hsum:=kara_sum X Y (18446744073709551616^d) x0 x1 y0 y1 (by rw [ex0,ex1];exact (Nat.mod_add_div _ _).symm) (by rw [ey0,ey1];exact (Nat.mod_add_div _ _).symm)
 have hle1:=kara_le1 x0 x1 y0 y1
 have hle2:=kara_le2 x0 x1 y0 y1
 have hXY:=mul_lt_pow (lt_wd X) (lt_wd Y)
 have lc1:(wd 18446744073709551616 ((x0+x1)*(y0+y1)-x0*y0)).length≤(wd 18446744073709551616 ((x0+x1)*(y0+y1))).length:=wd_len_mono (Nat.sub_le _ _)
 obtain ⟨a1,c1,rfl,hc1,-⟩:=id ha
 obtain ⟨a2,c2,rfl,hc2,-⟩:=id hb
 have low1:=fun W (h:Sl .u64 W _ _)=>natLow_any (.slice a1 (wd 18446744073709551616 X).length c1) X d W h (by omega) (by omega)
 have low2:=fun W (h:Sl .u64 W _ _)=>natLow_any (.slice a2 (wd 18446744073709551616 Y).length c2) Y d W h (by omega) (by omega)
 have hi1:=fun W (h:Sl .u64 W _ _)=>natHigh_any (.slice a1 (wd 18446744073709551616 X).length c1) X d W h (by omega) (by omega)
 have hi2:=fun W (h:Sl .u64 W _ _)=>natHigh_any (.slice a2 (wd 18446744073709551616 Y).length c2) Y d W h (by omega) (by omega)
 rw [← ex0] at low1
 rw [← ey0] at low2
 rw [← ex1] at hi1
 rw [← ey1] at hi2
 have LOW1:=hide low1
 have LOW2:=hide low2
 have HI1:=hide hi1
 have HI2:=hide hi2
 have HA:=hide ha
 have HB:=hide hb
 have HIH:=hide IH
 have HSUM:=hide hsum
 have HLE1:=hide hle1
 have HLE2:=hide hle2
 have HXY:=hide hXY
 have HLEN:=hide (And.intro lx1 (And.intro ly1 (And.intro lx0 (And.intro ly0 (And.intro lsx (And.intro lsy (And.intro lp (And.intro ll (And.intro lh lc1)))))))))
 have HBND:=hide (And.intro bx0 (And.intro by0 (And.intro bx1 by1)))
 have hmk:=fun wx=>run_make64p wx (wd 18446744073709551616 X).length (wd 18446744073709551616 Y).length (by omega)
 clear low1 low2 hi1 hi2 ha hb IH hsum hle1 hle2 hXY lx1 ly1 lx0 ly0 lsx lsy lp ll lh lc1 bx0 bx1 by0 by1 hp ex0 ex1 ey0 ey1
 generalize hnx:(wd 18446744073709551616 X).length=nx at *
 generalize hny:(wd 18446744073709551616 Y).length=ny at *
 clear hnx hny
 go_enter Tryz.func168,Tryz.ntmps168
 go_wp2_with fail
 refine (unhide LOW1 _ (unhide HA)).mono ?_
 rintro e w1 ⟨vx0,rfl,hvx0,hw⟩
 obtain rfl:=hw.symm
 have HX0:=hide hvx0
 clear hw hvx0
 go_wp2_with fail
 refine (unhide HI1 _ (unhide HA)).mono ?_
 rintro e w1 ⟨vx1,rfl,hvx1,hw⟩
 obtain rfl:=hw.symm
 have HX1:=hide hvx1
 clear hw hvx1
 go_wp2_with fail
 refine (unhide LOW2 _ (unhide HB)).mono ?_
 rintro e w1 ⟨vy0,rfl,hvy0,hw⟩
 obtain rfl:=hw.symm
 have HY0:=hide hvy0
 clear hw hvy0
 go_wp2_with fail
 refine (unhide HI2 _ (unhide HB)).mono ?_
 rintro e w1 ⟨vy1,rfl,hvy1,hw⟩
 obtain rfl:=hw.symm
 have HY1:=hide hvy1
 clear hw hvy1
 go_wp2_with fail
 refine (unhide HIH vx0 vy0 x0 y0 _ (unhide HX0) (unhide HY0) (by have:=unhide HLEN;omega)).mono ?_
 rintro e w1 ⟨vl0,rfl,hvl,hb1,-⟩
 have HL:=hide hvl
 have B1:=hide hb1
 clear hvl hb1
 go_wp2_with fail
 refine (unhide HIH vx1 vy1 x1 y1 _ ((unhide HX1).but_nil (unhide B1)) ((unhide HY1).but_nil (unhide B1)) (by have:=unhide HLEN;omega)).mono ?_
 rintro e w2 ⟨vh0,rfl,hvh,hb2,-⟩
 have HH:=hide hvh
 have B2:Hid (But [] w w2):=(unhide B1).trans' hb2
 have HL2:=hide ((unhide HL).but_nil hb2)
 clear hvh hb2
 go_wp2_with fail
 refine (natAdd_any vx0 vx1 x0 x1 _ ((unhide HX0).but_nil (unhide B2)) ((unhide HX1).but_nil (unhide B2)) (by have:=unhide HLEN;omega) (by have:=unhide HLEN;omega)).mono ?_
 rintro e w3 ⟨vsx,rfl,hvsx,hb3⟩
 have HSX:=hide hvsx
 have B3:Hid (But [] w w3):=(unhide B2).trans' hb3
 have B23:=hide hb3
 clear hvsx hb3
 go_wp2_with fail
 refine (natAdd_any vy0 vy1 y0 y1 _ ((unhide HY0).but_nil (unhide B3)) ((unhide HY1).but_nil (unhide B3)) (by have:=unhide HLEN;omega) (by have:=unhide HLEN;omega)).mono ?_
 rintro e w4 ⟨vsy,rfl,hvsy,hb4⟩
 have HSY:=hide hvsy
 have B4:Hid (But [] w w4):=(unhide B3).trans' hb4
 have B24:Hid (But [] w2 w4):=(unhide B23).trans' hb4
 have HSX4:=hide ((unhide HSX).but_nil hb4)
 clear hvsy hb4
 go_wp2_with fail
 refine (unhide HIH vsx vsy (x0+x1) (y0+y1) _ (unhide HSX4) (unhide HSY) (by have:=unhide HLEN;omega)).mono ?_
 rintro e w5 ⟨vp,rfl,hvp,hb5,-⟩
 have HP:=hide hvp
 have B5:Hid (But [] w w5):=(unhide B4).trans' hb5
 have B25:Hid (But [] w2 w5):=(unhide B24).trans' hb5
 clear hvp hb5
 go_wp2_with fail
 refine (natSub_any vp vl0 _ (x0*y0) _ (unhide HP) ((unhide HL2).but_nil (unhide B25)) (by have:=unhide HLEN;omega) (unhide HLE1)).mono ?_
 rintro e w6 ⟨vc1,rfl,hvc1,hb6⟩
 have HC1:=hide hvc1
 have B6:Hid (But [] w w6):=(unhide B5).trans' hb6
 have B26:Hid (But [] w2 w6):=(unhide B25).trans' hb6
 clear hvc1 hb6
 go_wp2_with fail
 refine (natSub_any vc1 vh0 _ (x1*y1) _ (unhide HC1) ((unhide HH).but_nil (unhide B26)) (by have:=unhide HLEN;omega) (unhide HLE2)).mono ?_
 rintro e w7 ⟨vc,rfl,hvc,hb7⟩
 have HCR:=hide hvc
 have B7:Hid (But [] w w7):=(unhide B6).trans' hb7
 have B27:Hid (But [] w2 w7):=(unhide B26).trans' hb7
 clear hvc hb7 B26 B25 B24 B23 B6 B5 B4 B3 B1 HX0 HX1 HY0 HY1 HSX HSY HSX4 HP HC1 HA HB HIH LOW1 LOW2 HI1 HI2
 have hbm:=but_made w7 (nx+ny) 24
 obtain ⟨w8,hcp,HC⟩:=run_copy_seg (P:=Tryz.prog) (w7.alloc (.cells (madeCells #[.int .u64 0] (nx+ny)) 24)) 70 71 24 Tryz.underlying70 size_u64 w7.heap.size 0 (nx+ny) (nx+ny) vl0 (List.replicate (nx+ny) 0) (wd 18446744073709551616 (x0*y0)) (Seg.made _ _ _) (by simp) (((unhide HL2).but_nil (unhide B27)).but_nil hbm) (by have:=unhide HLEN;rw [List.length_replicate];omega)
 have R1:=vl_copy (wd 18446744073709551616 (x0*y0)) (nx+ny)
 have R2:=mem_copy (wd 18446744073709551616 (x0*y0)) (nx+ny) (wd_mem (by omega) _)
 have R3:=len_copy (wd 18446744073709551616 (x0*y0)) (nx+ny) (by have:=unhide HLEN;omega)
 have R4:=fun j (hj:2*d≤j)=>zero_copy (wd 18446744073709551616 (x0*y0)) (nx+ny) j (by have:=unhide HLEN;omega)
 rw [vl_wd (by omega)] at R1
 have hsg8:=(unhide HC).1
 have hb8:But [w7.heap.size] (w7.alloc (.cells (madeCells #[.int .u64 0] (nx+ny)) 24)) w8:=(unhide HC).2.but
 have B8:But [] w7 w8:=hbm.trans hb8 (fun x hx=>by simp at hx;subst hx;exact .inr (Nat.le_refl _))
 have hg8:w7.heap.size<w8.heap.size:=Nat.lt_of_lt_of_le (by simp) hb8.size
 generalize wd 18446744073709551616 (x0*y0)++(List.replicate (nx+ny) 0).drop (wd 18446744073709551616 (x0*y0)).length=r1 at *
 have hsub:=hsg8.sub (2*d) (r1.length-2*d) (by omega)
 have lsub:((r1.drop (2*d)).take (r1.length-2*d)).length=r1.length-2*d:=by rw [List.length_take,List.length_drop];omega
 obtain ⟨w9,hcp2,HC2⟩:=run_copy_seg (P:=Tryz.prog) w8 70 71 24 Tryz.underlying70 size_u64 w7.heap.size (0+2*d) (r1.length-2*d) (r1.length-2*d) vh0 ((r1.drop (2*d)).take (r1.length-2*d)) (wd 18446744073709551616 (x1*y1)) hsub lsub.symm ((unhide HH).but_nil ((unhide B27).trans' B8)) (by have:=unhide HLEN;rw [lsub];omega)
 have hS2:=hsg8.whole ((unhide HC2).2.wide (Nat.le_refl _) (n':=r1.length-2*d) (by have:=unhide HLEN;omega)) (unhide HC2).1 (by rw [List.length_append,List.length_drop,lsub];have:=unhide HLEN;omega) (by omega)
 have V2:=vl_mid r1 (wd 18446744073709551616 (x1*y1)) (2*d) (by have:=unhide HLEN;omega) (fun j hj=>R4 j hj)
 rw [vl_wd (by omega),R1] at V2
 have M2:∀ x ∈ r1.take (2*d)++(wd 18446744073709551616 (x1*y1)++((r1.drop (2*d)).take (r1.length-2*d)).drop (wd 18446744073709551616 (x1*y1)).length)++r1.drop (2*d+(r1.length-2*d)),x < 18446744073709551616:=by
  intro x hx
  simp only [List.mem_append] at hx
  rcases hx with (hx | hx | hx) | hx
  ·exact R2 x (List.mem_of_mem_take hx)
  ·exact wd_mem (by omega) _ x hx
  ·exact R2 x (List.mem_of_mem_drop (List.mem_of_mem_take (List.mem_of_mem_drop hx)))
  ·exact R2 x (List.mem_of_mem_drop hx)
 have L2:(r1.take (2*d)++(wd 18446744073709551616 (x1*y1)++((r1.drop (2*d)).take (r1.length-2*d)).drop (wd 18446744073709551616 (x1*y1)).length)++r1.drop (2*d+(r1.length-2*d))).length=nx+ny:=by
  simp only [List.length_append,List.length_take,List.length_drop]
  have:=unhide HLEN
  omega
 rw [Nat.zero_add] at hS2 hcp2
 generalize r1.take (2*d)++(wd 18446744073709551616 (x1*y1)++((r1.drop (2*d)).take (r1.length-2*d)).drop (wd 18446744073709551616 (x1*y1)).length)++r1.drop (2*d+(r1.length-2*d))=r2 at *
 have hfit:vl 18446744073709551616 r2 + 18446744073709551616^d*((x0+x1)*(y0+y1)-x0*y0-x1*y1)=X*Y:=by
  rw [V2,← unhide HSUM,Nat.two_mul,Nat.pow_add];omega
 have hb9:But [w7.heap.size] w8 w9:=(unhide HC2).2.but
 have B9:But [] w7 w9:=B8.trans hb9 (fun x hx=>by simp at hx;subst hx;exact .inr (Nat.le_refl _))
 have hadd:=addAt_any w7.heap.size d (r2.length-d) r2 ((x0+x1)*(y0+y1)-x0*y0-x1*y1) vc w9 hS2 (by omega) (Nat.le_refl _) ((unhide HCR).but_nil B9) (fun hp=>off_fresh (unhide HCR) hp _ (Nat.le_refl _)) M2 (by rw [hfit,L2];exact unhide HXY) (by omega)
 rw [L2,hfit] at hadd
 rw [R3] at hcp2
 have HADD:=hide hadd
 have HB9:Hid (But [] w w9):=(unhide B7).trans' B9
 have HGE:w.heap.size≤w7.heap.size:=(unhide B7).size
 clear hadd hfit hS2 V2 M2 L2 hb9 B9 R1 R2 R3 R4 HC HC2 hsub lsub hsg8 hb8 B8 hg8 hbm HCR HH HL HL2 HXY HSUM HLE1 HLE2 HBND HLEN B7 B27 B2
 have i1:(0:Int)≤(d:Int):=by omega
 have i2:(d:Int)<((nx+ny:Nat):Int):=by omega
 have i3:(2*(d:Int))<((nx+ny:Nat):Int):=by omega
 go_wp2_with fail
 refine (unhide HADD).mono ?_
 rintro e w10 ⟨rs2,c,rfl,hl2,hm2,hv2,hs2,hb2⟩
 have hB10:Hid (But [] w w10):=(unhide HB9).trans hb2 (fun x hx=>by simp at hx;subst hx;exact .inr HGE)
 have hsl:=hs2.sl (nx+ny) (by rw [hl2];exact Nat.le_refl _)
 rw [hl2] at hsl
 have HSL:=hide hsl
 have HM2:=hide hm2
 have HV2:=hide hv2
 have HL2:rs2.length<2147483648:=by rw [hl2];omega
 clear hsl hm2 hv2 hl2 hs2 hb2 HADD HB9
 go_wp2_with fail
 refine (trimmed_any _ rs2 _ (unhide HSL) (unhide HM2) HL2).mono ?_
 rintro e w11 ⟨v7,rfl,hv7,hw,hsb⟩
 obtain rfl:=hw.symm
 clear hw
 rw [unhide HV2] at hv7
 have HV7:=hide hv7
 have HSB:=hide hsb
 clear hv7 hsb
 go_wp2
 go_ret
 exact ⟨v7,rfl,unhide HV7,unhide hB10,fresh_of (unhide HSB) HGE⟩
theorem natMul_long (k:Nat) (X Y:Nat) (IH:40<(wd 18446744073709551616 Y).length→MulOK k) (va vb:Value) (w:World) (ha:Sl .u64 w va (wd 18446744073709551616 X)) (hb:Sl .u64 w vb (wd 18446744073709551616 Y)) (hle:(wd 18446744073709551616 Y).length≤(wd 18446744073709551616 X).length) (hk:(wd 18446744073709551616 X).length+(wd 18446744073709551616 Y).length≤k+1) (hl:(wd 18446744073709551616 X).length<134217728) (u v:Value) (huv:(u=va∧v=vb)∨((wd 18446744073709551616 Y).length<(wd 18446744073709551616 X).length∧u=vb∧v=va)) :
  Calls Tryz.prog 124 #[u,v] w fun e w'=>∃ v',e=.returned v'∧Sl .u64 w' v' (wd 18446744073709551616 (X*Y))∧But [] w w'∧(Fresh w.heap.size v'∨(v'=va∧Y=1)):=by
 obtain ⟨a1,c1,rfl,hc1,-⟩:=id ha
 obtain ⟨a2,c2,rfl,hc2,-⟩:=id hb
 by_cases h0:(wd 18446744073709551616 Y).length=0
 ·have e:Y=0:=(wd_len_zero (by omega) Y).1 h0
  subst e
  rw [Nat.mul_zero,wd_zero]
  simp only [wd_zero,List.length_nil] at *
  generalize (wd 18446744073709551616 X).length=nx at *
  clear ha hb IH
  rcases huv with ⟨rfl,rfl⟩ | ⟨hlt,rfl,rfl⟩
  all_goals
   go_enter Tryz.func124,Tryz.ntmps124
   go_wp2
   go_ret
   exact ⟨_,rfl,Sl.nil _ _,But.refl _ _,.inl fun b off n c e=>by simp at e⟩
 by_cases hY1:Y=1
 ·have HO:=hide (fun W (h:Sl .u64 W (.slice a2 (wd 18446744073709551616 Y).length c2) (wd 18446744073709551616 Y))=>natOne_any _ Y W h (by omega) true (by show true=_;rw [hY1];rfl))
  have HA:=hide ha
  have HB:=hide hb
  have HX:Hid (wd 18446744073709551616 X=wd 18446744073709551616 (X*Y)):=by show _=_;rw [hY1,Nat.mul_one]
  have HY:=hide hY1
  clear ha hb IH hY1
  generalize (wd 18446744073709551616 X).length=nx at *
  generalize (wd 18446744073709551616 Y).length=ny at *
  have n0:((ny:Int)==0)=false:=beq_eq_false_iff_ne.2 (by omega)
  rcases huv with ⟨rfl,rfl⟩ | ⟨hlt,rfl,rfl⟩
  all_goals
   go_enter Tryz.func124,Tryz.ntmps124
   go_wp2_with fail
   refine (unhide HO _ (unhide HB)).mono ?_
   rintro e w1 ⟨rfl,h⟩
   obtain rfl:=h.symm
   clear h
   go_wp2
   go_ret
   exact ⟨_,rfl,by rw [← unhide HX];exact unhide HA,But.refl _ _,.inr ⟨rfl,unhide HY⟩⟩
 ·have HO:=hide (fun W (h:Sl .u64 W (.slice a2 (wd 18446744073709551616 Y).length c2) (wd 18446744073709551616 Y))=>natOne_any _ Y W h (by omega) false (by show false=_;simp;exact hY1))
  have HBB:=hide hb
  by_cases hs:(wd 18446744073709551616 Y).length≤40
  ·have hm:=mulWords_any _ _ _ _ w ha hb (wd_mem (by omega) X) (wd_mem (by omega) Y) (by omega) (by omega) (by omega) (by omega)
   rw [vl_wd (by omega),vl_wd (by omega)] at hm
   have HM:=hide hm
   clear hm ha hb IH
   generalize (wd 18446744073709551616 X).length=nx at *
   generalize (wd 18446744073709551616 Y).length=ny at *
   have n0:((ny:Int)==0)=false:=beq_eq_false_iff_ne.2 (by omega)
   rcases huv with ⟨rfl,rfl⟩ | ⟨hlt,rfl,rfl⟩
   all_goals
    go_enter Tryz.func124,Tryz.ntmps124
    go_wp2_with fail
    refine (unhide HO _ (unhide HBB)).mono ?_
    rintro e w1 ⟨rfl,h⟩
    obtain rfl:=h.symm
    clear h
    go_wp2_with fail
    refine (unhide HM).mono ?_
    rintro e w1 ⟨v',rfl,h1,h2,h3⟩
    have H1:=hide (And.intro h1 (And.intro h2 h3))
    clear h1 h2 h3
    go_wp2
    go_ret
    exact ⟨v',rfl,(unhide H1).1,(unhide H1).2.1,.inl (unhide H1).2.2⟩
  ·obtain ⟨d,hd⟩:∃ d,d=((wd 18446744073709551616 X).length+1)/2:=⟨_,rfl⟩
   by_cases hh:(wd 18446744073709551616 Y).length≤d
   ·have hm:=mulHalves_any k (IH (by omega)) _ _ X Y d w ha hb (by omega) (by omega) (by omega) hY1 (by omega) (by omega) (by omega) (by omega)
    have HM:=hide hm
    clear hm ha hb IH
    generalize (wd 18446744073709551616 X).length=nx at *
    generalize (wd 18446744073709551616 Y).length=ny at *
    have e1:((nx:Int)+1)/2=(d:Int):=by omega
    have n0:((ny:Int)==0)=false:=beq_eq_false_iff_ne.2 (by omega)
    have h1':2*d≤nx+1:=by omega
    have h2':nx≤2*d:=by omega
    clear hd
    rcases huv with ⟨rfl,rfl⟩ | ⟨hlt,rfl,rfl⟩
    all_goals
     go_enter Tryz.func124,Tryz.ntmps124
     go_wp2_with fail
     refine (unhide HO _ (unhide HBB)).mono ?_
     rintro e w1 ⟨rfl,h⟩
     obtain rfl:=h.symm
     clear h
     go_wp2_with fail
     refine (unhide HM).mono ?_
     rintro e w1 ⟨v',rfl,h1,h2,h3⟩
     have H1:=hide (And.intro h1 (And.intro h2 h3))
     clear h1 h2 h3
     go_wp2
     go_ret
     exact ⟨v',rfl,(unhide H1).1,(unhide H1).2.1,.inl (unhide H1).2.2⟩
   ·have hm:=karatsuba_any k (IH (by omega)) _ _ X Y d w ha hb (by omega) (by omega) (by omega) (by omega) (by omega) (by omega) (by omega)
    have HM:=hide hm
    clear hm ha hb IH
    generalize (wd 18446744073709551616 X).length=nx at *
    generalize (wd 18446744073709551616 Y).length=ny at *
    have e1:((nx:Int)+1)/2=(d:Int):=by omega
    have n0:((ny:Int)==0)=false:=beq_eq_false_iff_ne.2 (by omega)
    have h1':2*d≤nx+1:=by omega
    have h2':nx≤2*d:=by omega
    clear hd
    rcases huv with ⟨rfl,rfl⟩ | ⟨hlt,rfl,rfl⟩
    all_goals
     go_enter Tryz.func124,Tryz.ntmps124
     go_wp2_with fail
     refine (unhide HO _ (unhide HBB)).mono ?_
     rintro e w1 ⟨rfl,h⟩
     obtain rfl:=h.symm
     clear h
     go_wp2_with fail
     refine (unhide HM).mono ?_
     rintro e w1 ⟨v',rfl,h1,h2,h3⟩
     have H1:=hide (And.intro h1 (And.intro h2 h3))
     clear h1 h2 h3
     go_wp2
     go_ret
     exact ⟨v',rfl,(unhide H1).1,(unhide H1).2.1,.inl (unhide H1).2.2⟩
theorem mulOK (k:Nat) (hk:k<134217728):MulOK k:=by
 induction k with
 | zero =>
  intro va vb m n w ha hb h
  have hm:(wd 18446744073709551616 m).length=0:=by omega
  have hn:(wd 18446744073709551616 n).length=0:=by omega
  exact (natMul_long 0 m n (fun h=>by omega) va vb w ha hb (by omega) (by omega) (by omega) va vb (.inl ⟨rfl,rfl⟩)).mono fun e w' ⟨v',h1,h2,h3,h4⟩=>⟨v',h1,h2,h3,h4.elim .inl fun h=>.inr (.inl h)⟩
 | succ k ih =>
  intro va vb m n w ha hb h
  rcases Nat.lt_or_ge (wd 18446744073709551616 m).length (wd 18446744073709551616 n).length with hlt | hge
  ·have:=natMul_long k n m (fun _=>ih (by omega)) vb va w hb ha (by omega) (by omega) (by omega) va vb (.inr ⟨hlt,rfl,rfl⟩)
   rw [Nat.mul_comm] at this
   exact this.mono fun e w' ⟨v',h1,h2,h3,h4⟩=>⟨v',h1,h2,h3,h4.elim .inl fun h=>.inr (.inr h)⟩
  ·exact (natMul_long k m n (fun _=>ih (by omega)) va vb w ha hb hge (by omega) (by omega) va vb (.inl ⟨rfl,rfl⟩)).mono fun e w' ⟨v',h1,h2,h3,h4⟩=>⟨v',h1,h2,h3,h4.elim .inl fun h=>.inr (.inl h)⟩
theorem natMul_any (va vb:Value) (m n:Nat) (w:World) (ha:Sl .u64 w va (wd 18446744073709551616 m)) (hb:Sl .u64 w vb (wd 18446744073709551616 n)) (hl:(wd 18446744073709551616 m).length+(wd 18446744073709551616 n).length<134217728) :
  Calls Tryz.prog 124 #[va,vb] w fun e w'=>∃ v',e=.returned v'∧Sl .u64 w' v' (wd 18446744073709551616 (m*n))∧But [] w w'∧MulAt w.heap.size v' va vb m n :=
 mulOK _ hl va vb m n w ha hb (Nat.le_refl _)
end Go.Proofs.YtpfnnhjnakmnoaaGreatDoor

namespace Go.Proofs
open Go.Shelf
def Tryz.lays283_ren : Go.Shelf.Ren := ⟨fun | 283 => 173 | n => n, fun | 3 => 3 | 4 => 4 | 9 => 9 | n => n, fun | n => n⟩
theorem Tryz.lays283 : Go.Proofs.Lays.n283 Tryz.prog Tryz.lays283_ren := {
  mixed := by kernel_rfl
  f283 := Tryz.func173.trans (congrArg some (by kernel_rfl))
  t3 := Tryz.underlying3
  a3 := Tryz.isAgg3
  z3 := Tryz.sizeOf3
  v3 := Tryz.zeroValue3
  t4 := Tryz.underlying4
  a4 := Tryz.isAgg4
  z4 := Tryz.sizeOf4
  v4 := Tryz.zeroValue4
  t9 := Tryz.underlying9
  a9 := Tryz.isAgg9
  z9 := Tryz.sizeOf9
  v9 := Tryz.zeroValue9 }
open Go.Lib in
theorem Tryz.internal_strconv_small (i:Nat) (h:i<100) (w:World) :
  Calls Tryz.prog 173 #[.int .i64 i] w fun e w'=>e=.returned (.string ⟨(Lib.decDigits i).toArray⟩)∧w'=w:=Any.internal_strconv_small Tryz.lays283 i h w
def Tryz.laysM284_ren : Go.Shelf.Ren := ⟨fun | 129 => 207 | 284 => 174 | 317 => 206 | 318 => 208 | n => n, fun | 0 => 0 | 3 => 3 | 4 => 4 | 5 => 5 | 9 => 9 | 46 => 91 | 53 => 24 | 212 => 248 | n => n, fun | 17 => 1 | n => n⟩
theorem Tryz.laysM284 : Go.Proofs.LaysM.n284 Tryz.prog Tryz.laysM284_ren := {
  mixed := by kernel_rfl
  f129 := Tryz.func207.trans (congrArg some (by kernel_rfl))
  f284 := Tryz.func174.trans (congrArg some (by kernel_rfl))
  f317 := Tryz.func206.trans (congrArg some (by kernel_rfl))
  f318 := Tryz.func208.trans (congrArg some (by kernel_rfl))
  t0 := Tryz.underlying0
  a0 := Tryz.isAgg0
  z0 := Tryz.sizeOf0
  v0 := Tryz.zeroValue0
  t3 := Tryz.underlying3
  a3 := Tryz.isAgg3
  z3 := Tryz.sizeOf3
  v3 := Tryz.zeroValue3
  t4 := Tryz.underlying4
  a4 := Tryz.isAgg4
  z4 := Tryz.sizeOf4
  v4 := Tryz.zeroValue4
  t5 := Tryz.underlying5
  a5 := Tryz.isAgg5
  z5 := Tryz.sizeOf5
  v5 := Tryz.zeroValue5
  t9 := Tryz.underlying9
  a9 := Tryz.isAgg9
  z9 := Tryz.sizeOf9
  v9 := Tryz.zeroValue9
  t46 := Tryz.underlying91
  a46 := Tryz.isAgg91
  z46 := Tryz.sizeOf91
  v46 := Tryz.zeroValue91
  t53 := Tryz.underlying24
  a53 := Tryz.isAgg24
  z53 := Tryz.sizeOf24
  v53 := Tryz.zeroValue24
  t212 := Tryz.underlying248
  a212 := Tryz.isAgg248
  z212 := Tryz.sizeOf248
  v212 := Tryz.zeroValue248
  g17 := by kernel_rfl
  m17 := by kernel_rfl
  i0 := by kernel_rfl
  i3 := by kernel_rfl
  i4 := by kernel_rfl
  i5 := by kernel_rfl
  i9 := by kernel_rfl
  i46 := by kernel_rfl
  i53 := by kernel_rfl
  i212 := by kernel_rfl }
open Go.Lib in
theorem Tryz.internal_strconv_numDigits (u:Nat) (h1:1≤u) (h2:u<18446744073709551616) (w:World) (htab:Lib.TabIs Tryz.prog w "internal/strconv.uint64pow10" .u64 Lib.pow10Tab) :
  Calls Tryz.prog 174 #[.int .u64 u] w fun e w'=>e=.returned (.int .i64 (Lib.nDigits u))∧w'=w:=Any.internal_strconv_numDigits Tryz.laysM284 u h1 h2 w htab
def Tryz.lays285_ren : Go.Shelf.Ren := ⟨fun | 285 => 175 | n => n, fun | 0 => 0 | 3 => 3 | 4 => 4 | 5 => 5 | 9 => 9 | 37 => 133 | 51 => 190 | 53 => 24 | n => n, fun | n => n⟩
theorem Tryz.lays285 : Go.Proofs.Lays.n285 Tryz.prog Tryz.lays285_ren := {
  mixed := by kernel_rfl
  f285 := Tryz.func175.trans (congrArg some (by kernel_rfl))
  t0 := Tryz.underlying0
  a0 := Tryz.isAgg0
  z0 := Tryz.sizeOf0
  v0 := Tryz.zeroValue0
  t3 := Tryz.underlying3
  a3 := Tryz.isAgg3
  z3 := Tryz.sizeOf3
  v3 := Tryz.zeroValue3
  t4 := Tryz.underlying4
  a4 := Tryz.isAgg4
  z4 := Tryz.sizeOf4
  v4 := Tryz.zeroValue4
  t5 := Tryz.underlying5
  a5 := Tryz.isAgg5
  z5 := Tryz.sizeOf5
  v5 := Tryz.zeroValue5
  t9 := Tryz.underlying9
  a9 := Tryz.isAgg9
  z9 := Tryz.sizeOf9
  v9 := Tryz.zeroValue9
  t37 := Tryz.underlying133
  a37 := Tryz.isAgg133
  z37 := Tryz.sizeOf133
  v37 := Tryz.zeroValue133
  t51 := Tryz.underlying190
  a51 := Tryz.isAgg190
  z51 := Tryz.sizeOf190
  v51 := Tryz.zeroValue190
  t53 := Tryz.underlying24
  a53 := Tryz.isAgg24
  z53 := Tryz.sizeOf24
  v53 := Tryz.zeroValue24 }
open Go.RowKit Go.Sort Go.Lib in
theorem Tryz.internal_strconv_formatBase10 (blk off cap:Nat) (u:Nat) (d:Array UInt8) (w:World) (hH:Holds (fun (b:UInt8)=>Value.int .u8 (b.toNat:Int)) w blk off d) (hu:u<10^d.size) (hu64:u<18446744073709551616) (hsz:d.size<4611686018427387904) :
  Calls Tryz.prog 175 #[.slice (some ⟨blk,off,none⟩) d.size cap,.int .u64 u] w fun e w' =>
   e=.returned (.tuple #[])∧∃ (n v':Nat) (dk:Array UInt8),w'=(putRow (fun (b:UInt8)=>Value.int .u8 (b.toNat:Int)) w blk off dk).drewN n∧FmtInv d.size u 0 v' dk:=Any.internal_strconv_formatBase10 Tryz.lays285 blk off cap u d w hH hu hu64 hsz
def Tryz.lays125_ren : Go.Shelf.Ren := ⟨fun | 125 => 182 | 128 => 214 | 129 => 207 | n => n, fun | 3 => 3 | 4 => 4 | 5 => 5 | 9 => 9 | 46 => 91 | 51 => 190 | 53 => 24 | n => n, fun | n => n⟩
theorem Tryz.lays125 : Go.Proofs.Lays.n125 Tryz.prog Tryz.lays125_ren := {
  mixed := by kernel_rfl
  f125 := Tryz.func182.trans (congrArg some (by kernel_rfl))
  f128 := Tryz.func214.trans (congrArg some (by kernel_rfl))
  f129 := Tryz.func207.trans (congrArg some (by kernel_rfl))
  t3 := Tryz.underlying3
  a3 := Tryz.isAgg3
  z3 := Tryz.sizeOf3
  v3 := Tryz.zeroValue3
  t4 := Tryz.underlying4
  a4 := Tryz.isAgg4
  z4 := Tryz.sizeOf4
  v4 := Tryz.zeroValue4
  t5 := Tryz.underlying5
  a5 := Tryz.isAgg5
  z5 := Tryz.sizeOf5
  v5 := Tryz.zeroValue5
  t9 := Tryz.underlying9
  a9 := Tryz.isAgg9
  z9 := Tryz.sizeOf9
  v9 := Tryz.zeroValue9
  t46 := Tryz.underlying91
  a46 := Tryz.isAgg91
  z46 := Tryz.sizeOf91
  v46 := Tryz.zeroValue91
  t51 := Tryz.underlying190
  a51 := Tryz.isAgg190
  z51 := Tryz.sizeOf190
  v51 := Tryz.zeroValue190
  t53 := Tryz.underlying24
  a53 := Tryz.isAgg24
  z53 := Tryz.sizeOf24
  v53 := Tryz.zeroValue24 }
theorem Tryz.bits_Len (x:Int) (w:World) (h0:0≤x) (h1:x≤18446744073709551615) :
  Calls Tryz.prog 182 #[.int .u64 x] w fun e w'=>e=.returned (.int .i64 (Lib.bitLen x.toNat))∧w'=w:=Any.bits_Len Tryz.lays125 x w h0 h1
end Go.Proofs

namespace Go.Proofs.YtpfnnhjnakmnoaaGreatDoor
open Go.RowKit
set_option maxHeartbeats 4000000
set_option maxRecDepth 100000
theorem i64_and1 (a:Nat) (ha:a<9223372036854775808):bits .and .i64 (a:Int) 1=((a%2:Nat):Int):=by
 have h1:(BitVec.ofInt 64 (a:Int)).toNat=a:=by
  rw [BitVec.ofInt_natCast,BitVec.toNat_ofNat];exact Nat.mod_eq_of_lt (by omega)
 have h2:(BitVec.ofInt 64 (1:Int)).toNat=1:=rfl
 show IntKind.i64.wrap ((BitVec.ofInt 64 (a:Int) &&& BitVec.ofInt 64 (1:Int)).toNat:Int)=_
 rw [BitVec.toNat_and,h1,h2,Nat.and_one_is_mod,IntKind.wrap_i64]
 omega
theorem half_step (n i:Nat):n/2^i=2*(n/2^(i+1))+n/2^i%2:=by
 rw [Nat.pow_succ,← Nat.div_div_eq_div_mul];omega
theorem pow_even (X n i:Nat) (h:n/2^i%2=0):X^(n/2^(i+1))*X^(n/2^(i+1))=X^(n/2^i):=by
 rw [half_step n i,h,← Nat.pow_add];congr 1;omega
theorem pow_odd (X n i:Nat) (h:n/2^i%2=1):X^(n/2^(i+1))*X^(n/2^(i+1))*X=X^(n/2^i):=by
 rw [half_step n i,h,← Nat.pow_add,← Nat.pow_succ];congr 1;omega
theorem lt_bitLen (n:Nat) (h:n < 18446744073709551616):n<2^Lib.bitLen n∧Lib.bitLen n≤64:=by
 by_cases h0:n=0
 ·subst h0;exact ⟨by decide,by decide⟩
 ·exact ⟨(Lib.bitLenAux_bounds 64 n h h0).2.2,Lib.bitLen_le n 64 (by omega) h⟩
theorem natPow_any (v:Value) (X n:Nat) (w:World) (hv:Sl .u64 w v (wd 18446744073709551616 X)) (hX:0<X) (hn:n<2147483648) (hl:(wd 18446744073709551616 X).length+(wd 18446744073709551616 (X^n)).length<67108864) :
  Calls Tryz.prog 135 #[v,.int .i64 (n:Int)] w fun e w'=>∃ v',e=.returned v'∧Sl .u64 w' v' (wd 18446744073709551616 (X^n))∧But [] w w':=by
 obtain ⟨L,hL⟩:∃ L,L=Lib.bitLen n:=⟨_,rfl⟩
 have hb:=lt_bitLen n (by omega)
 have BL:=hide (fun W=>Tryz.bits_Len (n:Int) W (by omega) (by omega))
 rw [Int.toNat_natCast,← hL] at BL
 rw [← hL] at hb
 obtain ⟨hb1,hb2⟩:=hb
 have hlen:Hid (∀ i,(wd 18446744073709551616 (X^(n/2^i))).length<67108864∧(wd 18446744073709551616 X).length+(wd 18446744073709551616 (X^(n/2^i))).length<67108864):=fun i=>by
  have:=wd_len_mono (Nat.pow_le_pow_right hX (Nat.div_le_self n (2^i)))
  omega
 have hlen2:Hid (∀ i,(wd 18446744073709551616 (X^(n/2^(i+1))*X^(n/2^(i+1)))).length+(wd 18446744073709551616 X).length<67108864):=fun i=>by
  rw [← Nat.pow_add]
  have h3:=half_step n i
  have h4:=Nat.div_le_self n (2^i)
  have:=wd_len_mono (Nat.pow_le_pow_right hX (show n/2^(i+1)+n/2^(i+1)≤n from by omega))
  omega
 have HV:=hide hv
 have hdiv:n/2^L=0:=Nat.div_eq_of_lt hb1
 have hst:Hid ((1:Nat)=X^(n/2^L)):=by show _=_;rw [hdiv,Nat.pow_zero]
 clear hv hl hdiv hb1 hL
 obtain ⟨xa,xc,rfl,-,-⟩:=unhide HV
 generalize hnx:(wd 18446744073709551616 X).length=nx at *
 have HNX:=hide hnx
 clear hnx
 go_enter Tryz.func135,Tryz.ntmps135
 go_wp2_with fail
 refine (natOf_any 1 (by omega) _).mono ?_
 rintro e w1 ⟨v1,rfl,hv1,hb1,-⟩
 have H1:=hide hv1
 have B1:=hide hb1
 clear hv1 hb1
 go_wp2_with fail
 refine (unhide BL _).mono ?_
 rintro e w2 ⟨rfl,hw⟩
 obtain rfl:=hw.symm
 clear hw
 go_wp2
 go_loopw [5,6] (fun o i wr=>∃ k:Nat,k≤L∧i=.int .i64 ((k:Int)-1)∧Hid (Sl .u64 wr o (wd 18446744073709551616 (X^(n/2^k)))∧But [] w wr)) (fun _ i _=>(intOf i+1).toNat)
 case atStart=>exact ⟨L,Nat.le_refl _,rfl,by rw [← unhide hst];exact unhide H1,unhide B1⟩
 case round =>
  obtain ⟨k,hk,rfl,HI⟩:=hrel
  rename World=>wr
  by_cases hk0:k=0
  ·subst hk0
   go_wp2
   go_ret
   have h:=(unhide HI).1
   rw [Nat.pow_zero,Nat.div_one] at h
   exact ⟨_,rfl,h,(unhide HI).2⟩
  ·obtain ⟨i,rfl⟩:∃ i,k=i+1:=⟨k-1,by omega⟩
   rw [show (((i+1:Nat):Int)-1)=(i:Int) from by omega]
   have hq:n/2^i<9223372036854775808:=by have:=Nat.div_le_self n (2^i);omega
   have E1:bits .and .i64 ((n:Int)/2^i) 1=((n/2^i%2:Nat):Int):=by
    have e:(n:Int)/2^i=((n/2^i:Nat):Int):=by simp
    rw [e,i64_and1 _ hq]
   obtain ⟨a,c,ho⟩:∃ a c,u5=.slice a (wd 18446744073709551616 (X^(n/2^(i+1)))).length c:=by obtain ⟨a,c,e,-,-⟩:=(unhide HI).1;exact ⟨a,c,e⟩
   have MU:=hide (natMul_any u5 u5 _ _ wr (unhide HI).1 (unhide HI).1 (by have:=(unhide hlen (i+1)).1;omega))
   have L2:=hide (unhide hlen2 i)
   subst ho
   generalize hm:(wd 18446744073709551616 (X^(n/2^(i+1)))).length=m at *
   clear hm
   rcases Nat.mod_two_eq_zero_or_one (n/2^i) with hpar | hpar
   ·have e1:(((n/2^i%2:Nat):Int)==1)=false:=by rw [hpar];rfl
    have EV:=hide (pow_even X n i hpar)
    generalize n/2^i%2=b at *
    go_wp2_with fail
    refine (unhide MU).mono ?_
    rintro e w3 ⟨v3,rfl,hv3,hb3,-⟩
    rw [unhide EV] at hv3
    have H3:=hide hv3
    have B3:Hid (But [] w w3):=(unhide HI).2.trans' hb3
    clear hv3 hb3
    go_wp2
    refine ⟨⟨i,by omega,rfl,unhide H3,unhide B3⟩,?_⟩
    simp [intOf]
   ·have e1:(((n/2^i%2:Nat):Int)==1)=true:=by rw [hpar];rfl
    have EV:=hide (pow_odd X n i hpar)
    generalize n/2^i%2=b at *
    go_wp2_with fail
    refine (unhide MU).mono ?_
    rintro e w3 ⟨v3,rfl,hv3,hb3,-⟩
    have B3:Hid (But [] w w3):=(unhide HI).2.trans' hb3
    have MX:=hide (natMul_any v3 (.slice xa nx xc) _ X w3 hv3 ((unhide HV).but_nil (unhide B3)) (by rw [unhide HNX];have:=unhide L2;omega))
    obtain ⟨a3,c3,e3,-,-⟩:=hv3
    subst e3
    clear hb3
    rw [unhide EV] at MX
    generalize (wd 18446744073709551616 (X^(n/2^(i+1))*X^(n/2^(i+1)))).length=m3 at *
    go_wp2_with fail
    refine (unhide MX).mono ?_
    rintro e w4 ⟨v4,rfl,hv4,hb4,-⟩
    have H4:=hide hv4
    have B4:Hid (But [] w w4):=(unhide B3).trans' hb4
    clear hv4 hb4
    go_wp2
    refine ⟨⟨i,by omega,rfl,unhide H4,unhide B4⟩,?_⟩
    simp [intOf]
end Go.Proofs.YtpfnnhjnakmnoaaGreatDoor

namespace Go.Proofs.YtpfnnhjnakmnoaaGreatDoor
open Go.RowKit
set_option maxHeartbeats 4000000
set_option maxRecDepth 100000
theorem natPow_low (v:Value) (X n:Nat) (w:World) (hv:Sl .u64 w v (wd 18446744073709551616 X)) (hX:X≤1) (hn:n<2147483648) :
  Calls Tryz.prog 135 #[v,.int .i64 (n:Int)] w fun e w'=>∃ v',e=.returned v'∧Sl .u64 w' v' (wd 18446744073709551616 (X^n))∧But [] w w':=by
 obtain ⟨L,hL⟩:∃ L,L=Lib.bitLen n:=⟨_,rfl⟩
 have hb:=lt_bitLen n (by omega)
 have BL:=hide (fun W=>Tryz.bits_Len (n:Int) W (by omega) (by omega))
 rw [Int.toNat_natCast,← hL] at BL
 rw [← hL] at hb
 obtain ⟨hb1,hb2⟩:=hb
 have hp1:∀ m,(wd 18446744073709551616 (X^m)).length≤1:=fun m=>wd_length_le (by omega) _ 1 (by have:=Nat.pow_le_pow_left hX m;rw [Nat.one_pow] at this;omega)
 have hp2:(wd 18446744073709551616 X).length≤1:=wd_length_le (by omega) _ 1 (by omega)
 have hlen:Hid (∀ i,(wd 18446744073709551616 (X^(n/2^i))).length<67108864∧(wd 18446744073709551616 X).length+(wd 18446744073709551616 (X^(n/2^i))).length<67108864):=fun i=>by
  have:=hp1 (n/2^i)
  omega
 have hlen2:Hid (∀ i,(wd 18446744073709551616 (X^(n/2^(i+1))*X^(n/2^(i+1)))).length+(wd 18446744073709551616 X).length<67108864):=fun i=>by
  rw [← Nat.pow_add]
  have:=hp1 (n/2^(i+1)+n/2^(i+1))
  omega
 have HV:=hide hv
 have hdiv:n/2^L=0:=Nat.div_eq_of_lt hb1
 have hst:Hid ((1:Nat)=X^(n/2^L)):=by show _=_;rw [hdiv,Nat.pow_zero]
 clear hv hdiv hb1 hL hp1 hp2
 obtain ⟨xa,xc,rfl,-,-⟩:=unhide HV
 generalize hnx:(wd 18446744073709551616 X).length=nx at *
 have HNX:=hide hnx
 clear hnx
 go_enter Tryz.func135,Tryz.ntmps135
 go_wp2_with fail
 refine (natOf_any 1 (by omega) _).mono ?_
 rintro e w1 ⟨v1,rfl,hv1,hb1,-⟩
 have H1:=hide hv1
 have B1:=hide hb1
 clear hv1 hb1
 go_wp2_with fail
 refine (unhide BL _).mono ?_
 rintro e w2 ⟨rfl,hw⟩
 obtain rfl:=hw.symm
 clear hw
 go_wp2
 go_loopw [5,6] (fun o i wr=>∃ k:Nat,k≤L∧i=.int .i64 ((k:Int)-1)∧Hid (Sl .u64 wr o (wd 18446744073709551616 (X^(n/2^k)))∧But [] w wr)) (fun _ i _=>(intOf i+1).toNat)
 case atStart=>exact ⟨L,Nat.le_refl _,rfl,by rw [← unhide hst];exact unhide H1,unhide B1⟩
 case round =>
  obtain ⟨k,hk,rfl,HI⟩:=hrel
  rename World=>wr
  by_cases hk0:k=0
  ·subst hk0
   go_wp2
   go_ret
   have h:=(unhide HI).1
   rw [Nat.pow_zero,Nat.div_one] at h
   exact ⟨_,rfl,h,(unhide HI).2⟩
  ·obtain ⟨i,rfl⟩:∃ i,k=i+1:=⟨k-1,by omega⟩
   rw [show (((i+1:Nat):Int)-1)=(i:Int) from by omega]
   have hq:n/2^i<9223372036854775808:=by have:=Nat.div_le_self n (2^i);omega
   have E1:bits .and .i64 ((n:Int)/2^i) 1=((n/2^i%2:Nat):Int):=by
    have e:(n:Int)/2^i=((n/2^i:Nat):Int):=by simp
    rw [e,i64_and1 _ hq]
   obtain ⟨a,c,ho⟩:∃ a c,u5=.slice a (wd 18446744073709551616 (X^(n/2^(i+1)))).length c:=by obtain ⟨a,c,e,-,-⟩:=(unhide HI).1;exact ⟨a,c,e⟩
   have MU:=hide (natMul_any u5 u5 _ _ wr (unhide HI).1 (unhide HI).1 (by have:=(unhide hlen (i+1)).1;omega))
   have L2:=hide (unhide hlen2 i)
   subst ho
   generalize hm:(wd 18446744073709551616 (X^(n/2^(i+1)))).length=m at *
   clear hm
   rcases Nat.mod_two_eq_zero_or_one (n/2^i) with hpar | hpar
   ·have e1:(((n/2^i%2:Nat):Int)==1)=false:=by rw [hpar];rfl
    have EV:=hide (pow_even X n i hpar)
    generalize n/2^i%2=b at *
    go_wp2_with fail
    refine (unhide MU).mono ?_
    rintro e w3 ⟨v3,rfl,hv3,hb3,-⟩
    rw [unhide EV] at hv3
    have H3:=hide hv3
    have B3:Hid (But [] w w3):=(unhide HI).2.trans' hb3
    clear hv3 hb3
    go_wp2
    refine ⟨⟨i,by omega,rfl,unhide H3,unhide B3⟩,?_⟩
    simp [intOf]
   ·have e1:(((n/2^i%2:Nat):Int)==1)=true:=by rw [hpar];rfl
    have EV:=hide (pow_odd X n i hpar)
    generalize n/2^i%2=b at *
    go_wp2_with fail
    refine (unhide MU).mono ?_
    rintro e w3 ⟨v3,rfl,hv3,hb3,-⟩
    have B3:Hid (But [] w w3):=(unhide HI).2.trans' hb3
    have MX:=hide (natMul_any v3 (.slice xa nx xc) _ X w3 hv3 ((unhide HV).but_nil (unhide B3)) (by rw [unhide HNX];have:=unhide L2;omega))
    obtain ⟨a3,c3,e3,-,-⟩:=hv3
    subst e3
    clear hb3
    rw [unhide EV] at MX
    generalize (wd 18446744073709551616 (X^(n/2^(i+1))*X^(n/2^(i+1)))).length=m3 at *
    go_wp2_with fail
    refine (unhide MX).mono ?_
    rintro e w4 ⟨v4,rfl,hv4,hb4,-⟩
    have H4:=hide hv4
    have B4:Hid (But [] w w4):=(unhide B3).trans' hb4
    clear hv4 hb4
    go_wp2
    refine ⟨⟨i,by omega,rfl,unhide H4,unhide B4⟩,?_⟩
    simp [intOf]
end Go.Proofs.YtpfnnhjnakmnoaaGreatDoor
