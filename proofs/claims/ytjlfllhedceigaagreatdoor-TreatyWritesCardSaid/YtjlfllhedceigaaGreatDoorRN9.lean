/- The product of two whole numbers of any  -/
import Derived.Lib.ConvBytes
import Derived.Test.YtjlfllhedceigaaGreatDoorRN8
namespace Go.Proofs.YtjlfllhedceigaaGreatDoor
set_option linter.unusedVariables false
open Go.Proofs.Tryz
open Go.RowKit
set_option maxHeartbeats 8000000
set_option maxRecDepth 100000
theorem qdc (X Y P:Nat) (x0 x1 y0 y1:Nat) (hX:X=x0+P*x1) (hY:Y=y0+P*y1):x0*y0+P*((x0+x1)*(y0+y1)-x0*y0-x1*y1)+P*P*(x1*y1)=X*Y:=by(
 have e:(x0+x1)*(y0+y1)-x0*y0-x1*y1=x0*y1+x1*y0:=by
  have:(x0+x1)*(y0+y1)=x0*y0+x1*y1+(x0*y1+x1*y0):=by grind
  omega
 rw[e,hX,hY]
 grind)
theorem qde (x0 x1 y0 y1:Nat):x0*y0≤(x0+x1)*(y0+y1):=Nat.mul_le_mul (by omega) (by omega)
theorem qdd (x0 x1 y0 y1:Nat):x1*y1≤(x0+x1)*(y0+y1)-x0*y0:=by
 have:(x0+x1)*(y0+y1)=x0*y0+x1*y1+(x0*y1+x1*y0):=by grind
 omega
theorem zbo (X Y k:Nat) (hx:X < 18446744073709551616^k) (hy:Y < 18446744073709551616^k):(wd 18446744073709551616 (X+Y)).length≤k+1:=aj (by omega) _ _ (by rw[Nat.pow_succ];omega)
theorem qic (rs xs:List Nat) (o:Nat) (hl:o+xs.length≤rs.length) (hz:∀ j,o≤j→rs[j]?.getD 0=0):vl 18446744073709551616 (rs.take o++(xs++((rs.drop o).take (rs.length-o)).drop xs.length)++rs.drop (o+(rs.length-o)))=vl 18446744073709551616 rs + 18446744073709551616^o*vl 18446744073709551616 xs:=by(
 have lt:(rs.take o).length=o:=by rw[List.length_take];omega
 have e1:rs.drop (o+(rs.length-o))=[]:=List.drop_eq_nil_of_le (by omega)
 have z1:vl 18446744073709551616 (rs.drop o)=0:=zac _ _ (fun j hj=>by rw[List.getElem?_drop];exact hz _ (by omega))
 have z2:vl 18446744073709551616 (((rs.drop o).take (rs.length-o)).drop xs.length)=0:=zac _ _ (fun j hj=>by
  rw[List.getElem?_drop,List.getElem?_take]
  split
  ·rw[List.getElem?_drop];exact hz _ (by omega)
  ·rfl)
 have h1:=congrArg (vl 18446744073709551616) (List.take_append_drop o rs)
 rw[zq,z1,Nat.mul_zero,Nat.add_zero] at h1
 rw[e1,List.append_nil,zq,lt,zq,z2,Nat.mul_zero,Nat.add_zero,h1])
theorem zvi (xs:List Nat) (n j:Nat) (h:xs.length≤j):(xs++(List.replicate n 0).drop xs.length)[j]?.getD 0=0:=by
 rw[List.getElem?_append_right h,List.getElem?_drop,List.getElem?_replicate]
 split <;> rfl
theorem zmg (k:Nat) (IH:zvh k) (va vb:Value) (X Y d:Nat) (w:World) (ha:Sl .u64 w va (wd 18446744073709551616 X)) (hb:Sl .u64 w vb (wd 18446744073709551616 Y)) (hd:2<d) (hx:d<(wd 18446744073709551616 X).length) (hxx:(wd 18446744073709551616 X).length≤2*d) (hy:d<(wd 18446744073709551616 Y).length) (hyy:(wd 18446744073709551616 Y).length≤(wd 18446744073709551616 X).length) (hk1:2*d+2≤k) (hlx:(wd 18446744073709551616 X).length<134217728) :
   Calls prog 241 #[va,vb,.int .i64 (d:Int)] w fun e w'=>∃ v',e=.returned v'∧Sl .u64 w' v' (wd 18446744073709551616 (X*Y))∧But [] w w'∧sw w.heap.size v':=by(
 obtain⟨x0,ex0⟩:∃ x0,x0=X % 18446744073709551616^d:=⟨_,rfl⟩
 obtain⟨x1,ex1⟩:∃ x1,x1=X / 18446744073709551616^d:=⟨_,rfl⟩
 obtain⟨y0,ey0⟩:∃ y0,y0=Y % 18446744073709551616^d:=⟨_,rfl⟩
 obtain⟨y1,ey1⟩:∃ y1,y1=Y / 18446744073709551616^d:=⟨_,rfl⟩
 have hp:0 < 18446744073709551616^d:=Nat.pow_pos (by omega)
 have bx0:x0 < 18446744073709551616^d:=by rw[ex0];exact Nat.mod_lt _ hp
 have by0:y0 < 18446744073709551616^d:=by rw[ey0];exact Nat.mod_lt _ hp
 have lx1:(wd 18446744073709551616 x1).length=(wd 18446744073709551616 X).length-d:=by rw[ex1];exact jd d X
 have ly1:(wd 18446744073709551616 y1).length=(wd 18446744073709551616 Y).length-d:=by rw[ey1];exact jd d Y
 have bx1:x1 < 18446744073709551616^d:=ak (by omega) _ _ (by omega)
 have by1:y1 < 18446744073709551616^d:=ak (by omega) _ _ (by omega)
 have lx0:(wd 18446744073709551616 x0).length≤d:=aj (by omega) _ _ bx0
 have ly0:(wd 18446744073709551616 y0).length≤d:=aj (by omega) _ _ by0
 have lsx:=zbo x0 x1 d bx0 bx1
 have lsy:=zbo y0 y1 d by0 by1
 have lp:=xg (x0+x1) (y0+y1)
 have ll:=xg x0 y0
 have lh:=xg x1 y1
 have hsum:=qdc X Y (18446744073709551616^d) x0 x1 y0 y1 (by rw[ex0,ex1];exact (Nat.mod_add_div _ _).symm) (by rw[ey0,ey1];exact (Nat.mod_add_div _ _).symm)
 have hle1:=qde x0 x1 y0 y1
 have hle2:=qdd x0 x1 y0 y1
 have hXY:=zef (zct X) (zct Y)
 have lc1:(wd 18446744073709551616 ((x0+x1)*(y0+y1)-x0*y0)).length≤(wd 18446744073709551616 ((x0+x1)*(y0+y1))).length:=aq (Nat.sub_le _ _)
 obtain⟨a1,c1,rfl,hc1,-⟩:=id ha
 obtain⟨a2,c2,rfl,hc2,-⟩:=id hb
 have low1:=fun W (h:Sl .u64 W _ _)=>zbw (.slice a1 (wd 18446744073709551616 X).length c1) X d W h (by omega) (by omega)
 have low2:=fun W (h:Sl .u64 W _ _)=>zbw (.slice a2 (wd 18446744073709551616 Y).length c2) Y d W h (by omega) (by omega)
 have hi1:=fun W (h:Sl .u64 W _ _)=>fe (.slice a1 (wd 18446744073709551616 X).length c1) X d W h (by omega) (by omega)
 have hi2:=fun W (h:Sl .u64 W _ _)=>fe (.slice a2 (wd 18446744073709551616 Y).length c2) Y d W h (by omega) (by omega)
 rw[← ex0] at low1
 rw[← ey0] at low2
 rw[← ex1] at hi1
 rw[← ey1] at hi2
 have LOW1:=af low1
 have LOW2:=af low2
 have HI1:=af hi1
 have HI2:=af hi2
 have HA:=af ha
 have HB:=af hb
 have HIH:=af IH
 have HSUM:=af hsum
 have HLE1:=af hle1
 have HLE2:=af hle2
 have HXY:=af hXY
 have HLEN:=af (And.intro lx1 (And.intro ly1 (And.intro lx0 (And.intro ly0 (And.intro lsx (And.intro lsy (And.intro lp (And.intro ll (And.intro lh lc1)))))))))
 have HBND:=af (And.intro bx0 (And.intro by0 (And.intro bx1 by1)))
 have hmk:=fun wx=>zcm wx (wd 18446744073709551616 X).length (wd 18446744073709551616 Y).length (by omega)
 clear low1 low2 hi1 hi2 ha hb IH hsum hle1 hle2 hXY lx1 ly1 lx0 ly0 lsx lsy lp ll lh lc1 bx0 bx1 by0 by1 hp ex0 ex1 ey0 ey1
 generalize hnx:(wd 18446744073709551616 X).length=nx at *
 generalize hny:(wd 18446744073709551616 Y).length=ny at *
 clear hnx hny
 go_enter func241,ntmps241
 go_wp2_with fail
 refine (ae LOW1 _ (ae HA)).mono ?_
 rintro e w1 ⟨vx0,rfl,hvx0,hw⟩
 obtain rfl:=hw.symm
 have HX0:=af hvx0
 clear hw hvx0
 go_wp2_with fail
 refine (ae HI1 _ (ae HA)).mono ?_
 rintro e w1 ⟨vx1,rfl,hvx1,hw⟩
 obtain rfl:=hw.symm
 have HX1:=af hvx1
 clear hw hvx1
 go_wp2_with fail
 refine (ae LOW2 _ (ae HB)).mono ?_
 rintro e w1 ⟨vy0,rfl,hvy0,hw⟩
 obtain rfl:=hw.symm
 have HY0:=af hvy0
 clear hw hvy0
 go_wp2_with fail
 refine (ae HI2 _ (ae HB)).mono ?_
 rintro e w1 ⟨vy1,rfl,hvy1,hw⟩
 obtain rfl:=hw.symm
 have HY1:=af hvy1
 clear hw hvy1
 go_wp2_with fail
 refine (ae HIH vx0 vy0 x0 y0 _ (ae HX0) (ae HY0) (by have:=ae HLEN;omega)).mono ?_
 rintro e w1 ⟨vl0,rfl,hvl,hb1,-⟩
 have HL:=af hvl
 have B1:=af hb1
 clear hvl hb1
 go_wp2_with fail
 refine (ae HIH vx1 vy1 x1 y1 _ ((ae HX1).ah (ae B1)) ((ae HY1).ah (ae B1)) (by have:=ae HLEN;omega)).mono ?_
 rintro e w2 ⟨vh0,rfl,hvh,hb2,-⟩
 have HH:=af hvh
 have B2:Hid (But [] w w2):=(ae B1).trans' hb2
 have HL2:=af ((ae HL).ah hb2)
 clear hvh hb2
 go_wp2_with fail
 refine (zbx vx0 vx1 x0 x1 _ ((ae HX0).ah (ae B2)) ((ae HX1).ah (ae B2)) (by have:=ae HLEN;omega) (by have:=ae HLEN;omega)).mono ?_
 rintro e w3 ⟨vsx,rfl,hvsx,hb3⟩
 have HSX:=af hvsx
 have B3:Hid (But [] w w3):=(ae B2).trans' hb3
 have B23:=af hb3
 clear hvsx hb3
 go_wp2_with fail
 refine (zbx vy0 vy1 y0 y1 _ ((ae HY0).ah (ae B3)) ((ae HY1).ah (ae B3)) (by have:=ae HLEN;omega) (by have:=ae HLEN;omega)).mono ?_
 rintro e w4 ⟨vsy,rfl,hvsy,hb4⟩
 have HSY:=af hvsy
 have B4:Hid (But [] w w4):=(ae B3).trans' hb4
 have B24:Hid (But [] w2 w4):=(ae B23).trans' hb4
 have HSX4:=af ((ae HSX).ah hb4)
 clear hvsy hb4
 go_wp2_with fail
 refine (ae HIH vsx vsy (x0+x1) (y0+y1) _ (ae HSX4) (ae HSY) (by have:=ae HLEN;omega)).mono ?_
 rintro e w5 ⟨vp,rfl,hvp,hb5,-⟩
 have HP:=af hvp
 have B5:Hid (But [] w w5):=(ae B4).trans' hb5
 have B25:Hid (But [] w2 w5):=(ae B24).trans' hb5
 clear hvp hb5
 go_wp2_with fail
 refine (zed vp vl0 _ (x0*y0) _ (ae HP) ((ae HL2).ah (ae B25)) (by have:=ae HLEN;omega) (ae HLE1)).mono ?_
 rintro e w6 ⟨vc1,rfl,hvc1,hb6⟩
 have HC1:=af hvc1
 have B6:Hid (But [] w w6):=(ae B5).trans' hb6
 have B26:Hid (But [] w2 w6):=(ae B25).trans' hb6
 clear hvc1 hb6
 go_wp2_with fail
 refine (zed vc1 vh0 _ (x1*y1) _ (ae HC1) ((ae HH).ah (ae B26)) (by have:=ae HLEN;omega) (ae HLE2)).mono ?_
 rintro e w7 ⟨vc,rfl,hvc,hb7⟩
 have HCR:=af hvc
 have B7:Hid (But [] w w7):=(ae B6).trans' hb7
 have B27:Hid (But [] w2 w7):=(ae B26).trans' hb7
 clear hvc hb7 B26 B25 B24 B23 B6 B5 B4 B3 B1 HX0 HX1 HY0 HY1 HSX HSY HSX4 HP HC1 HA HB HIH LOW1 LOW2 HI1 HI2
 have hbm:=jr w7 (nx+ny) 24
 obtain⟨w8,hcp,HC⟩:=qz (P:=prog) (w7.alloc (.cells (madeCells #[.int .u64 0] (nx+ny)) 24)) 110 111 24 underlying110 dw w7.heap.size 0 (nx+ny) (nx+ny) vl0 (List.replicate (nx+ny) 0) (wd 18446744073709551616 (x0*y0)) (Seg.made _ _ _) (by simp) (((ae HL2).ah (ae B27)).ah hbm) (by have:=ae HLEN;rw[List.length_replicate];omega)
 have R1:=ztw (wd 18446744073709551616 (x0*y0)) (nx+ny)
 have R2:=zql (wd 18446744073709551616 (x0*y0)) (nx+ny) (zo (by omega) _)
 have R3:=zqm (wd 18446744073709551616 (x0*y0)) (nx+ny) (by have:=ae HLEN;omega)
 have R4:=fun j (hj:2*d≤j)=>zvi (wd 18446744073709551616 (x0*y0)) (nx+ny) j (by have:=ae HLEN;omega)
 rw[qh (by omega)] at R1
 have hsg8:=(ae HC).1
 have hb8:But [w7.heap.size] (w7.alloc (.cells (madeCells #[.int .u64 0] (nx+ny)) 24)) w8:=(ae HC).2.but
 have B8:But [] w7 w8:=hbm.trans hb8 (fun x hx=>by simp at hx;subst hx;exact .inr (Nat.le_refl _))
 have hg8:w7.heap.size<w8.heap.size:=Nat.lt_of_lt_of_le (by simp) hb8.size
 generalize wd 18446744073709551616 (x0*y0)++(List.replicate (nx+ny) 0).drop (wd 18446744073709551616 (x0*y0)).length=r1 at *
 have hsub:=hsg8.sub (2*d) (r1.length-2*d) (by omega)
 have lsub:((r1.drop (2*d)).take (r1.length-2*d)).length=r1.length-2*d:=by rw[List.length_take,List.length_drop];omega
 obtain⟨w9,hcp2,HC2⟩:=qz (P:=prog) w8 110 111 24 underlying110 dw w7.heap.size (0+2*d) (r1.length-2*d) (r1.length-2*d) vh0 ((r1.drop (2*d)).take (r1.length-2*d)) (wd 18446744073709551616 (x1*y1)) hsub lsub.symm ((ae HH).ah ((ae B27).trans' B8)) (by have:=ae HLEN;rw[lsub];omega)
 have hS2:=hsg8.whole ((ae HC2).2.wide (Nat.le_refl _) (n':=r1.length-2*d) (by have:=ae HLEN;omega)) (ae HC2).1 (by rw[List.length_append,List.length_drop,lsub];have:=ae HLEN;omega) (by omega)
 have V2:=qic r1 (wd 18446744073709551616 (x1*y1)) (2*d) (by have:=ae HLEN;omega) (fun j hj=>R4 j hj)
 rw[qh (by omega),R1] at V2
 have M2:∀ x ∈ r1.take (2*d)++(wd 18446744073709551616 (x1*y1)++((r1.drop (2*d)).take (r1.length-2*d)).drop (wd 18446744073709551616 (x1*y1)).length)++r1.drop (2*d+(r1.length-2*d)),x < 18446744073709551616:=by
  intro x hx
  simp only[List.mem_append] at hx
  rcases hx with (hx | hx | hx) | hx
  ·exact R2 x (List.mem_of_mem_take hx)
  ·exact zo (by omega) _ x hx
  ·exact R2 x (List.mem_of_mem_drop (List.mem_of_mem_take (List.mem_of_mem_drop hx)))
  ·exact R2 x (List.mem_of_mem_drop hx)
 have L2:(r1.take (2*d)++(wd 18446744073709551616 (x1*y1)++((r1.drop (2*d)).take (r1.length-2*d)).drop (wd 18446744073709551616 (x1*y1)).length)++r1.drop (2*d+(r1.length-2*d))).length=nx+ny:=by
  simp only[List.length_append,List.length_take,List.length_drop]
  have:=ae HLEN
  omega
 rw[Nat.zero_add] at hS2 hcp2
 generalize r1.take (2*d)++(wd 18446744073709551616 (x1*y1)++((r1.drop (2*d)).take (r1.length-2*d)).drop (wd 18446744073709551616 (x1*y1)).length)++r1.drop (2*d+(r1.length-2*d))=r2 at *
 have hfit:vl 18446744073709551616 r2 + 18446744073709551616^d*((x0+x1)*(y0+y1)-x0*y0-x1*y1)=X*Y:=by
  rw[V2,← ae HSUM,Nat.two_mul,Nat.pow_add];omega
 have hb9:But [w7.heap.size] w8 w9:=(ae HC2).2.but
 have B9:But [] w7 w9:=B8.trans hb9 (fun x hx=>by simp at hx;subst hx;exact .inr (Nat.le_refl _))
 have hadd:=zng w7.heap.size d (r2.length-d) r2 ((x0+x1)*(y0+y1)-x0*y0-x1*y1) vc w9 hS2 (by omega) (Nat.le_refl _) ((ae HCR).ah B9) (fun hp=>eu (ae HCR) hp _ (Nat.le_refl _)) M2 (by rw[hfit,L2];exact ae HXY) (by omega)
 rw[L2,hfit] at hadd
 rw[R3] at hcp2
 have HADD:=af hadd
 have HB9:Hid (But [] w w9):=(ae B7).trans' B9
 have HGE:w.heap.size≤w7.heap.size:=(ae B7).size
 clear hadd hfit hS2 V2 M2 L2 hb9 B9 R1 R2 R3 R4 HC HC2 hsub lsub hsg8 hb8 B8 hg8 hbm HCR HH HL HL2 HXY HSUM HLE1 HLE2 HBND HLEN B7 B27 B2
 have i1:(0:Int)≤(d:Int):=by omega
 have i2:(d:Int)<((nx+ny:Nat):Int):=by omega
 have i3:(2*(d:Int))<((nx+ny:Nat):Int):=by omega
 go_wp2_with fail
 refine (ae HADD).mono ?_
 rintro e w10 ⟨rs2,c,rfl,hl2,hm2,hv2,hs2,hb2⟩
 have hB10:Hid (But [] w w10):=(ae HB9).trans hb2 (fun x hx=>by simp at hx;subst hx;exact .inr HGE)
 have hsl:=hs2.sl (nx+ny) (by rw[hl2];exact Nat.le_refl _)
 rw[hl2] at hsl
 have HSL:=af hsl
 have HM2:=af hm2
 have HV2:=af hv2
 have HL2:rs2.length<2147483648:=by rw[hl2];omega
 clear hsl hm2 hv2 hl2 hs2 hb2 HADD HB9
 go_wp2_with fail
 refine (qa _ rs2 _ (ae HSL) (ae HM2) HL2).mono ?_
 rintro e w11 ⟨v7,rfl,hv7,hw,hsb⟩
 obtain rfl:=hw.symm
 clear hw
 rw[ae HV2] at hv7
 have HV7:=af hv7
 have HSB:=af hsb
 clear hv7 hsb
 go_wp2
 go_ret
 exact⟨v7,rfl,ae HV7,ae hB10,dx (ae HSB) HGE⟩)
theorem zcs (k:Nat) (X Y:Nat) (IH:40<(wd 18446744073709551616 Y).length→zvh k) (va vb:Value) (w:World) (ha:Sl .u64 w va (wd 18446744073709551616 X)) (hb:Sl .u64 w vb (wd 18446744073709551616 Y)) (hle:(wd 18446744073709551616 Y).length≤(wd 18446744073709551616 X).length) (hk:(wd 18446744073709551616 X).length+(wd 18446744073709551616 Y).length≤k+1) (hl:(wd 18446744073709551616 X).length<134217728) (u v:Value) (huv:(u=va∧v=vb)∨((wd 18446744073709551616 Y).length<(wd 18446744073709551616 X).length∧u=vb∧v=va)) :
   Calls prog 177 #[u,v] w fun e w'=>∃ v',e=.returned v'∧Sl .u64 w' v' (wd 18446744073709551616 (X*Y))∧But [] w w'∧(sw w.heap.size v'∨(v'=va∧Y=1)):=by(
 obtain⟨a1,c1,rfl,hc1,-⟩:=id ha
 obtain⟨a2,c2,rfl,hc2,-⟩:=id hb
 by_cases h0:(wd 18446744073709551616 Y).length=0
 ·(
 have e:Y=0:=(zi (by omega) Y).1 h0
 subst e
 rw[Nat.mul_zero,zk]
 simp only[zk,List.length_nil] at *
 generalize (wd 18446744073709551616 X).length=nx at *
 clear ha hb IH
 rcases huv with ⟨rfl,rfl⟩|⟨hlt,rfl,rfl⟩
 all_goals(
 go_enter func177,ntmps177
 go_wp2
 go_ret
 exact⟨_,rfl,Sl.nil _ _,But.refl _ _,.inl fun b off n c e=>by simp at e⟩))
 by_cases hY1:Y=1
 ·(
 have HO:=af (fun W (h:Sl .u64 W (.slice a2 (wd 18446744073709551616 Y).length c2) (wd 18446744073709551616 Y))=>zee _ Y W h (by omega) true (by show true=_;rw[hY1];rfl))
 have HA:=af ha
 have HB:=af hb
 have HX:Hid (wd 18446744073709551616 X=wd 18446744073709551616 (X*Y)):=by show _=_;rw[hY1,Nat.mul_one]
 have HY:=af hY1
 clear ha hb IH hY1
 generalize (wd 18446744073709551616 X).length=nx at *
 generalize (wd 18446744073709551616 Y).length=ny at *
 have n0:((ny:Int)==0)=false:=beq_eq_false_iff_ne.2 (by omega)
 rcases huv with ⟨rfl,rfl⟩|⟨hlt,rfl,rfl⟩
 all_goals(
 go_enter func177,ntmps177
 go_wp2_with fail
 refine (ae HO _ (ae HB)).mono ?_
 rintro e w1 ⟨rfl,h⟩
 obtain rfl:=h.symm
 clear h
 go_wp2
 go_ret
 exact⟨_,rfl,by rw[← ae HX];exact ae HA,But.refl _ _,.inr ⟨rfl,ae HY⟩⟩))
 ·(
 have HO:=af (fun W (h:Sl .u64 W (.slice a2 (wd 18446744073709551616 Y).length c2) (wd 18446744073709551616 Y))=>zee _ Y W h (by omega) false (by show false=_;simp;exact hY1))
 have HBB:=af hb
 by_cases hs:(wd 18446744073709551616 Y).length≤40
 ·(
 have hm:=zog _ _ _ _ w ha hb (zo (by omega) X) (zo (by omega) Y) (by omega) (by omega) (by omega) (by omega)
 rw[qh (by omega),qh (by omega)] at hm
 have HM:=af hm
 clear hm ha hb IH
 generalize (wd 18446744073709551616 X).length=nx at *
 generalize (wd 18446744073709551616 Y).length=ny at *
 have n0:((ny:Int)==0)=false:=beq_eq_false_iff_ne.2 (by omega)
 rcases huv with ⟨rfl,rfl⟩|⟨hlt,rfl,rfl⟩
 all_goals(
 go_enter func177,ntmps177
 go_wp2_with fail
 refine (ae HO _ (ae HBB)).mono ?_
 rintro e w1 ⟨rfl,h⟩
 obtain rfl:=h.symm
 clear h
 go_wp2_with fail
 refine (ae HM).mono ?_
 rintro e w1 ⟨v',rfl,h1,h2,h3⟩
 have H1:=af (And.intro h1 (And.intro h2 h3))
 clear h1 h2 h3
 go_wp2
 go_ret
 exact⟨v',rfl,(ae H1).1,(ae H1).2.1,.inl (ae H1).2.2⟩))
 ·(
 obtain⟨d,hd⟩:∃ d,d=((wd 18446744073709551616 X).length+1)/2:=⟨_,rfl⟩
 by_cases hh:(wd 18446744073709551616 Y).length≤d
 ·(
 have hm:=zmb k (IH (by omega)) _ _ X Y d w ha hb (by omega) (by omega) (by omega) hY1 (by omega) (by omega) (by omega) (by omega)
 have HM:=af hm
 clear hm ha hb IH
 generalize (wd 18446744073709551616 X).length=nx at *
 generalize (wd 18446744073709551616 Y).length=ny at *
 have e1:((nx:Int)+1)/2=(d:Int):=by omega
 have n0:((ny:Int)==0)=false:=beq_eq_false_iff_ne.2 (by omega)
 have h1':2*d≤nx+1:=by omega
 have h2':nx≤2*d:=by omega
 clear hd
 rcases huv with ⟨rfl,rfl⟩|⟨hlt,rfl,rfl⟩
 all_goals(
 go_enter func177,ntmps177
 go_wp2_with fail
 refine (ae HO _ (ae HBB)).mono ?_
 rintro e w1 ⟨rfl,h⟩
 obtain rfl:=h.symm
 clear h
 go_wp2_with fail
 refine (ae HM).mono ?_
 rintro e w1 ⟨v',rfl,h1,h2,h3⟩
 have H1:=af (And.intro h1 (And.intro h2 h3))
 clear h1 h2 h3
 go_wp2
 go_ret
 exact⟨v',rfl,(ae H1).1,(ae H1).2.1,.inl (ae H1).2.2⟩))
 ·(
 have hm:=zmg k (IH (by omega)) _ _ X Y d w ha hb (by omega) (by omega) (by omega) (by omega) (by omega) (by omega) (by omega)
 have HM:=af hm
 clear hm ha hb IH
 generalize (wd 18446744073709551616 X).length=nx at *
 generalize (wd 18446744073709551616 Y).length=ny at *
 have e1:((nx:Int)+1)/2=(d:Int):=by omega
 have n0:((ny:Int)==0)=false:=beq_eq_false_iff_ne.2 (by omega)
 have h1':2*d≤nx+1:=by omega
 have h2':nx≤2*d:=by omega
 clear hd
 rcases huv with ⟨rfl,rfl⟩|⟨hlt,rfl,rfl⟩
 all_goals(
 go_enter func177,ntmps177
 go_wp2_with fail
 refine (ae HO _ (ae HBB)).mono ?_
 rintro e w1 ⟨rfl,h⟩
 obtain rfl:=h.symm
 clear h
 go_wp2_with fail
 refine (ae HM).mono ?_
 rintro e w1 ⟨v',rfl,h1,h2,h3⟩
 have H1:=af (And.intro h1 (And.intro h2 h3))
 clear h1 h2 h3
 go_wp2
 go_ret
 exact⟨v',rfl,(ae H1).1,(ae H1).2.1,.inl (ae H1).2.2⟩)))))
theorem qkj (k:Nat) (hk:k<134217728):zvh k:=by(
 induction k with
 | zero =>
  intro va vb m n w ha hb h
  have hm:(wd 18446744073709551616 m).length=0:=by omega
  have hn:(wd 18446744073709551616 n).length=0:=by omega
  exact (zcs 0 m n (fun h=>by omega) va vb w ha hb (by omega) (by omega) (by omega) va vb (.inl ⟨rfl,rfl⟩)).mono fun e w' ⟨v',h1,h2,h3,h4⟩=>⟨v',h1,h2,h3,h4.elim .inl fun h=>.inr (.inl h)⟩
 | succ k ih =>
  intro va vb m n w ha hb h
  rcases Nat.lt_or_ge (wd 18446744073709551616 m).length (wd 18446744073709551616 n).length with hlt | hge
  ·have:=zcs k n m (fun _=>ih (by omega)) vb va w hb ha (by omega) (by omega) (by omega) va vb (.inr ⟨hlt,rfl,rfl⟩)
   rw[Nat.mul_comm] at this
   exact this.mono fun e w' ⟨v',h1,h2,h3,h4⟩=>⟨v',h1,h2,h3,h4.elim .inl fun h=>.inr (.inr h)⟩
  ·exact (zcs k m n (fun _=>ih (by omega)) va vb w ha hb hge (by omega) (by omega) va vb (.inl ⟨rfl,rfl⟩)).mono fun e w' ⟨v',h1,h2,h3,h4⟩=>⟨v',h1,h2,h3,h4.elim .inl fun h=>.inr (.inl h)⟩)
theorem mo (va vb:Value) (m n:Nat) (w:World) (ha:Sl .u64 w va (wd 18446744073709551616 m)) (hb:Sl .u64 w vb (wd 18446744073709551616 n)) (hl:(wd 18446744073709551616 m).length+(wd 18446744073709551616 n).length<134217728) :
  Calls prog 177 #[va,vb] w fun e w'=>∃ v',e=.returned v'∧Sl .u64 w' v' (wd 18446744073709551616 (m*n))∧But [] w w'∧zrk w.heap.size v' va vb m n :=
 qkj _ hl va vb m n w ha hb (Nat.le_refl _)
def okB (b:Nat):Prop:=(97≤b∧b≤122)∨(48≤b∧b≤57)∨b=45
def qd (s:ByteArray):Prop:=(∀ j,j<s.size→okB (s.data.toList.getD j 0).toNat)∧1≤s.size∧s.size≤20
theorem znf (w:World) (e:TypeId) (s:ByteArray):But [] w (Lib.bytesWorld w e s) :=
 ⟨rfl,rfl,rfl,by rw[Lib.bytesWorld_size];omega,fun k hk _=>Lib.bytesWorld_at_old w e s k hk⟩
theorem zw (s:ByteArray) (w:World) (hs:qd s) :
   Calls prog 150 #[.string s] w fun e w'=>e=.returned (.bool true)∧But [] w w':=by(
 obtain⟨hall,h1,h2⟩:=hs
 have hcv:=Lib.run_convert_string_bytes (P:=prog) w 9 141 5 s underlying9 underlying141 underlying5
 have HC:Hid (∀ j,j<s.size→(Lib.bytesWorld w 5 s).cell? ⟨w.heap.size,j,none⟩=some (.int .u8 (s.data.toList.getD j 0).toNat)):=fun j hj=>Lib.bytesWorld_cell w 5 s j hj
 have HB:=af (znf w 5 s)
 have HA:=af hall
 generalize Lib.bytesWorld w 5 s=V at *
 generalize grownCap w s.size 0 5 = gc at *
 generalize hn:s.size=n at *
 generalize w.heap.size=g at HC hcv
 clear hall
 go_enter func150,ntmps150
 go_wp2
 go_loopw [8] (fun i wr=>∃ k:Nat,k≤n∧i=.int .i64 (k:Int)∧wr=V) (fun i _=>n-(intOf i).toNat)
 case atStart=>exact⟨0,Nat.zero_le _,rfl,rfl⟩
 case round =>(
 obtain⟨k,hk,rfl,rfl⟩:=hrel
 by_cases hlt:k<n
 ·(
 have c0:=ae HC k hlt
 have ho:=ae HA k hlt
 generalize (s.data.toList.getD k 0).toNat=b at *
 unfold okB at ho
 rcases ho with ⟨o1,o2⟩|⟨o1,o2⟩|rfl
 ·go_wp2
  all_goals exact⟨⟨k+1,by omega,by go_num,by first | trivial|rfl⟩,by simp[intOf];omega⟩
 ·go_wp2
  all_goals exact⟨⟨k+1,by omega,by go_num,by first | trivial|rfl⟩,by simp[intOf];omega⟩
 ·go_wp2
  all_goals exact⟨⟨k+1,by omega,by go_num,by first | trivial|rfl⟩,by simp[intOf];omega⟩)
 ·obtain rfl:k=n:=by omega
  have hsz:(s.size:Int)=(k:Int):=by omega
  go_wp2
  all_goals exact bodyPost_ret (v:=.bool true) (by simp[results,results150,go_sem];omega) rfl ⟨rfl,ae HB⟩))
theorem znl (s:ByteArray) (w:World) (hs:¬ qd s) (hbig:s.size<9223372036854775808) :
   Calls prog 150 #[.string s] w fun e w'=>e=.returned (.bool false)∧But [] w w':=by(
 have hcv:=Lib.run_convert_string_bytes (P:=prog) w 9 141 5 s underlying9 underlying141 underlying5
 have HC:Hid (∀ j,j<s.size→(Lib.bytesWorld w 5 s).cell? ⟨w.heap.size,j,none⟩=some (.int .u8 (s.data.toList.getD j 0).toNat)):=fun j hj=>Lib.bytesWorld_cell w 5 s j hj
 have HB:=af (znf w 5 s)
 have HS:=af hs
 generalize Lib.bytesWorld w 5 s=V at *
 generalize grownCap w s.size 0 5 = gc at *
 generalize hn:s.size=n at *
 generalize w.heap.size=g at HC hcv
 clear hs
 go_enter func150,ntmps150
 go_wp2
 go_loopw [8] (fun i wr=>∃ k:Nat,k≤n∧i=.int .i64 (k:Int)∧Hid (∀ j,j<k→okB (s.data.toList.getD j 0).toNat)∧wr=V) (fun i _=>n-(intOf i).toNat)
 case atStart=>exact⟨0,Nat.zero_le _,rfl,fun j hj=>absurd hj (by omega),rfl⟩
 case round =>(
 obtain⟨k,hk,rfl,HO,rfl⟩:=hrel
 by_cases hlt:k<n
 ·(
 have c0:=ae HC k hlt
 have HN:okB (s.data.toList.getD k 0).toNat→Hid (∀ j,j<k+1→okB (s.data.toList.getD j 0).toNat):=fun hk1 j hj=>by
  rcases Nat.lt_or_ge j k with h | h
  ·exact ae HO j h
  ·obtain rfl:j=k:=by omega
   exact hk1
 have HNN:=af HN
 clear HN
 have hb256:(s.data.toList.getD k 0).toNat<256:=(s.data.toList.getD k 0).toNat_lt
 generalize (s.data.toList.getD k 0).toNat=b at *
 by_cases ho:okB b
 ·(
 have HN:=ae HNN ho
 clear HNN
 unfold okB at ho
 rcases ho with ⟨o1,o2⟩|⟨o1,o2⟩|rfl
 ·go_wp2
  all_goals exact⟨⟨k+1,by omega,by go_num,ae HN,by first | trivial|rfl⟩,by simp[intOf];omega⟩
 ·go_wp2
  all_goals exact⟨⟨k+1,by omega,by go_num,ae HN,by first | trivial|rfl⟩,by simp[intOf];omega⟩
 ·go_wp2
  all_goals exact⟨⟨k+1,by omega,by go_num,ae HN,by first | trivial|rfl⟩,by simp[intOf];omega⟩)
 ·(
 clear HNN
 unfold okB at ho
 have hc:b<45∨(45<b∧b<48)∨(57<b∧b<97)∨122<b:=by omega
 rcases hc with c|⟨c,c'⟩|⟨c,c'⟩ | c
 ·clear ho
  have h45:((b:Int)==45)=false:=beq_eq_false_iff_ne.2 (by omega)
  go_wp2
  all_goals first | (go_ret;exact⟨rfl,ae HB⟩) | (exfalso;omega)
 ·clear ho
  have h45:((b:Int)==45)=false:=beq_eq_false_iff_ne.2 (by omega)
  go_wp2
  all_goals first | (go_ret;exact⟨rfl,ae HB⟩) | (exfalso;omega)
 ·(
 clear ho
 have h45:((b:Int)==45)=false:=beq_eq_false_iff_ne.2 (by omega)
 have f57:¬ (b:Int)≤57:=by omega
 have f97:¬ (97:Int)≤(b:Int):=by omega
 have f48:(48:Int)≤(b:Int):=by omega
 go_wp2
 all_goals first | (go_ret;exact⟨rfl,ae HB⟩) | (exfalso;omega))
 ·(
 clear ho
 have h45:((b:Int)==45)=false:=beq_eq_false_iff_ne.2 (by omega)
 have f57:¬ (b:Int)≤57:=by omega
 have f122:¬ (b:Int)≤122:=by omega
 have f97:(97:Int)≤(b:Int):=by omega
 have f48:(48:Int)≤(b:Int):=by omega
 go_wp2
 all_goals first | (go_ret;exact⟨rfl,ae HB⟩) | (exfalso;omega))))
 ·(
 obtain rfl:k=n:=by omega
 have hbad:k<1∨20<k:=by
  rcases Nat.lt_or_ge k 1 with h | h
  ·exact .inl h
  ·rcases Nat.lt_or_ge 20 k with h2 | h2
   ·exact .inr h2
   ·exact absurd ⟨by rw[hn];exact ae HO,by omega,by omega⟩ (ae HS)
 have hsz:(s.size:Int)=(k:Int):=by omega
 rcases hbad with h | h
 ·go_wp2
  all_goals exact bodyPost_ret (v:=.bool false) (by simp[results,results150,go_sem];try omega) rfl ⟨rfl,ae HB⟩
 ·go_wp2
  all_goals exact bodyPost_ret (v:=.bool false) (by simp[results,results150,go_sem];try omega) rfl ⟨rfl,ae HB⟩)))
end Go.Proofs.YtjlfllhedceigaaGreatDoor
