/- The product of two whole numbers of any  -/
import Derived.Deep.RegionWith
import Derived.Shelf.Strconv.Itoa1
import Derived.Shelf.LaysM
import Derived.Shelf.Strconv.Itoa2
import Derived.Shelf.Small.Bits
import Derived.Test.YtpmjeclpkahkmaaGreatDoorProg
import Derived.Laws.Bits64b
import Derived.Lib.ItoaNum
import Derived.Test.YtpmjeclpkahkmaaGreatDoorVN6
namespace Go.Proofs.YtpmjeclpkahkmaaGreatDoor
set_option linter.unusedVariables false
open Go.Proofs.Tryz
open Go.RowKit
set_option maxHeartbeats 4000000
set_option maxRecDepth 100000
theorem qfr {rs:List Nat} {B:Nat} (h:∀ x ∈ rs,x<B) (i:Nat):∀ x ∈ rs.drop i,x<B:=fun x hx=>h x (List.mem_of_mem_drop hx)
theorem Seg.ah {w w':World} {g o:Nat} {rs:List Nat} (hb:But [] w w') (h:Seg w g o rs):Seg w' g o rs:=h.but hb (by simp)
theorem zql (g h cap:Nat) (rs:List Nat) (H:Nat) (vy:Value) (w:World) (hs:Seg w g 0 rs) (hh:h<rs.length) (hc:rs.length-h≤cap) (hy:Sl .u64 w vy (wd 18446744073709551616 H)) (hoff:0<(wd 18446744073709551616 H).length→Off g vy) (hm:∀ x ∈ rs,x < 18446744073709551616) (hfit:vl 18446744073709551616 rs + 18446744073709551616^h*H < 18446744073709551616^rs.length) (hl:rs.length<2147483648) :
  Calls prog 266 #[.slice (some ⟨g,h,none⟩) (rs.length-h) cap,vy] w fun e w'=>∃ (rs2:List Nat) (c:Nat),e=.returned (.int .u64 (c:Nat))∧rs2.length=rs.length∧(∀ x ∈ rs2,x < 18446744073709551616)∧vl 18446744073709551616 rs2=vl 18446744073709551616 rs + 18446744073709551616^h*H∧Seg w' g 0 rs2∧But [g] w w':=by(
have hld:(rs.drop h).length=rs.length-h:=List.length_drop
have hsub:=hs.sub h (rs.length-h) (by omega)
have e0:(rs.drop h).take (rs.length-h)=rs.drop h:=List.take_of_length_le (by rw[hld];exact Nat.le_refl _)
rw[e0,Nat.zero_add] at hsub
have hsplit:18446744073709551616^rs.length=18446744073709551616^h * 18446744073709551616^(rs.length-h):=by rw[← Nat.pow_add];congr 1;omega
have hH:H < 18446744073709551616^(rs.length-h):=by
 have:18446744073709551616^h*H < 18446744073709551616^h * 18446744073709551616^(rs.length-h):=by rw[← hsplit];omega
 exact Nat.lt_of_mul_lt_mul_left this
have hwl:(wd 18446744073709551616 H).length≤rs.length-h:=aj (by omega) H _ hH
have hA:=zkj g h cap (rs.drop h) (wd 18446744073709551616 H) vy w hsub (by rw[hld];exact hc) hy hoff (qfr hm h) (zn (by omega) H) (by rw[hld];exact hwl) (by rw[hld];omega)
rw[hld,qg (by omega)] at hA
refine hA.mono ?_
rintro e w' ⟨c,ws,rfl,hc1,hlw,hmw,hv,hsg,hpt⟩
have hlt:(rs.take h).length=h:=by rw[List.length_take];omega
have hd:vl 18446744073709551616 rs=vl 18446744073709551616 (rs.take h) + 18446744073709551616^h*vl 18446744073709551616 (rs.drop h):=by
 have:=congrArg (vl 18446744073709551616) (List.take_append_drop h rs)
 rw[zt,hlt] at this
 exact this.symm
have hc0:c=0:=by
 rcases Nat.eq_zero_or_pos c with h0 | h0
 ·exact h0
 ·exfalso
  have h1:18446744073709551616^(rs.length-h)≤c * 18446744073709551616^(rs.length-h):=Nat.le_mul_of_pos_left _ h0
  have h2:18446744073709551616^h * 18446744073709551616^(rs.length-h)≤18446744073709551616^h*(vl 18446744073709551616 (rs.drop h)+H):=Nat.mul_le_mul_left _ (by omega)
  rw[Nat.mul_add,← hsplit] at h2
  omega
subst hc0
have hW:=hs.whole hpt hsg hlw (by omega)
have e1:rs.drop (h+(rs.length-h))=[]:=List.drop_eq_nil_of_le (by omega)
rw[e1,List.append_nil] at hW
refine⟨rs.take h++ws,0,rfl,by rw[List.length_append,hlt,hlw];omega,?_,?_,hW,hpt.but⟩
·intro x hx
 rcases List.mem_append.1 hx with h1 | h1
 ·exact hm x (List.mem_of_mem_take h1)
 ·exact hmw x h1
·rw[zt,hlt,hd]
 have hv':vl 18446744073709551616 ws=vl 18446744073709551616 (rs.drop h)+H:=by omega
 rw[hv',Nat.mul_add];omega)
def zvh (B:Nat) (v va vb:Value) (m n:Nat):Prop:=ui B v∨(v=va∧n=1)∨(v=vb∧m=1)
theorem qbi {w:World} {v va vb:Value} {m n B:Nat} {xs:List Nat} (h:zvh B v va vb m n) (hB:w.heap.size<B) (hn:n≠1) (hb:Sl .u64 w vb xs) (h0:0<xs.length):Off w.heap.size v:=by(
rcases h with h|⟨_,h⟩|⟨rfl,_⟩
·exact fun b off n c e=>by have:=h b off n c e;omega
·exact absurd h hn
·exact ug hb h0 _ (Nat.le_refl _))
def zzj (k:Nat):Prop:=∀ (va vb:Value) (m n:Nat) (w:World),Sl .u64 w va (wd 18446744073709551616 m)→Sl .u64 w vb (wd 18446744073709551616 n)→(wd 18446744073709551616 m).length+(wd 18446744073709551616 n).length≤k →
 Calls prog 196 #[va,vb] w fun e w'=>∃ v',e=.returned v'∧Sl .u64 w' v' (wd 18446744073709551616 (m*n))∧But [] w w'∧zvh w.heap.size v' va vb m n
theorem zhg {X Y a b:Nat} (hx:X < 18446744073709551616^a) (hy:Y < 18446744073709551616^b):X*Y < 18446744073709551616^(a+b):=by(
rw[Nat.pow_add]
rcases Nat.eq_zero_or_pos Y with h | h
·subst h;rw[Nat.mul_zero];exact Nat.mul_pos (Nat.pow_pos (by omega)) (Nat.pow_pos (by omega))
·exact Nat.lt_of_lt_of_le (Nat.mul_lt_mul_of_pos_right hx h) (Nat.mul_le_mul_left _ (Nat.le_of_lt hy)))
theorem zfa (X:Nat):X < 18446744073709551616^(wd 18446744073709551616 X).length:=ak (by omega) X _ (Nat.le_refl _)
theorem qz (X Y:Nat):(wd 18446744073709551616 (X*Y)).length≤(wd 18446744073709551616 X).length+(wd 18446744073709551616 Y).length:=aj (by omega) _ _ (zhg (zfa X) (zfa Y))
theorem zxx (xs:List Nat) (n:Nat):vl 18446744073709551616 (xs++(List.replicate n 0).drop xs.length)=vl 18446744073709551616 xs:=by rw[zt,List.drop_replicate,ja];simp
theorem ztv (xs:List Nat) (n:Nat) (h:∀ x ∈ xs,x < 18446744073709551616):∀ x ∈ xs++(List.replicate n 0).drop xs.length,x < 18446744073709551616:=fun x hx=>by
 rcases List.mem_append.1 hx with h1 | h1
 ·exact h x h1
 ·have:=List.mem_of_mem_drop h1
  rw[List.mem_replicate] at this
  omega
theorem ztw (xs:List Nat) (n:Nat) (h:xs.length≤n):(xs++(List.replicate n 0).drop xs.length).length=n:=by simp;omega
theorem zwx (X Y h:Nat):(X % 18446744073709551616^h)*Y + 18446744073709551616^h*(X / 18446744073709551616^h*Y)=X*Y:=by(
have:=Nat.mod_add_div X (18446744073709551616^h)
generalize X % 18446744073709551616^h=a at *
generalize X / 18446744073709551616^h=b at *
generalize 18446744073709551616^h=P at *
subst this
grind)
theorem zos (k:Nat) (IH:zzj k) (va vb:Value) (X Y d:Nat) (w:World) (ha:Sl .u64 w va (wd 18446744073709551616 X)) (hb:Sl .u64 w vb (wd 18446744073709551616 Y)) (h0:0<d) (hx:d<(wd 18446744073709551616 X).length) (hy:0<(wd 18446744073709551616 Y).length) (hy1:Y≠1) (hk1:d+(wd 18446744073709551616 Y).length≤k) (hk2:(wd 18446744073709551616 X).length-d+(wd 18446744073709551616 Y).length≤k) (hlx:(wd 18446744073709551616 X).length<268435456) (hly:(wd 18446744073709551616 Y).length<268435456) :
  Calls prog 248 #[va,vb,.int .i64 (d:Int)] w fun e w'=>∃ v',e=.returned v'∧Sl .u64 w' v' (wd 18446744073709551616 (X*Y))∧But [] w w'∧ui w.heap.size v':=by(
have hmk:=fun wx=>zfm wx (wd 18446744073709551616 X).length (wd 18446744073709551616 Y).length (by omega)
have L1:=zmg d X
have L2:=xh d X
have L3:=qz (X % 18446744073709551616^d) Y
have L4:=qz (X / 18446744073709551616^d) Y
have V1:=qg (B:=18446744073709551616) (by omega) (X % 18446744073709551616^d*Y)
have M1:=zn (B:=18446744073709551616) (by omega) (X % 18446744073709551616^d*Y)
have HS:=zwx X Y d
have HXY:=zhg (zfa X) (zfa Y)
have hal:=ha.ah (ky w ((wd 18446744073709551616 X).length+(wd 18446744073709551616 Y).length) 24)
have hbl:=hb.ah (ky w ((wd 18446744073709551616 X).length+(wd 18446744073709551616 Y).length) 24)
have sg0:=Seg.made w ((wd 18446744073709551616 X).length+(wd 18446744073709551616 Y).length) 24
have bm:=ky w ((wd 18446744073709551616 X).length+(wd 18446744073709551616 Y).length) 24
have low:=zeq va X d (w.alloc (.cells (madeCells #[.int .u64 0] ((wd 18446744073709551616 X).length+(wd 18446744073709551616 Y).length)) 24)) hal (by omega) (by omega)
have hsz0:w.heap.size<(w.alloc (.cells (madeCells #[.int .u64 0] ((wd 18446744073709551616 X).length+(wd 18446744073709551616 Y).length)) 24)).heap.size:=by simp
obtain⟨a1,c1,rfl,hc1,-⟩:=id ha
obtain⟨a2,c2,rfl,hc2,-⟩:=id hb
have HV1:=af V1
have HM1:=af M1
have HHS:=af HS
have HXYl:=af HXY
have HAL:=af hal
have HBL:=af hbl
have SG0:=af sg0
have BM:=af bm
have LOW:=af low
have HIH:=af IH
have HSZ:=af hsz0
have HL:=af (And.intro L1 (And.intro L2 (And.intro L3 L4)))
have HA:=af ha
have HB:=af hb
clear V1 M1 HS HXY hal hbl sg0 bm low IH ha hb L1 L2 L3 L4 hsz0
have HLX:Hid (∀ n,n=(wd 18446744073709551616 X).length→n<268435456):=fun n e=>by rw[e];exact hlx
generalize hnx:(wd 18446744073709551616 X).length=nx at *
generalize hny:(wd 18446744073709551616 Y).length=ny at *
have NX:=af hnx
have NY:=af hny
clear hnx hny
go_enter func248,ntmps248
go_wp2_with fail
refine (ae LOW).mono ?_
rintro e w1 ⟨v1,rfl,hv1,hw⟩
obtain rfl:=hw.symm
clear hw
have HV:=af hv1
clear hv1
go_wp2_with fail
refine (ae HIH v1 _ _ _ _ (ae HV) (ae HBL) (by have:=ae HL;rw[ae NY];omega)).mono ?_
rintro e w2 ⟨v2,rfl,hv2,hb2,-⟩
obtain⟨w3,hcp,HC⟩:=jl (P:=prog) w2 130 131 24 underlying130 o5 w.heap.size 0 (nx+ny) (nx+ny) v2 (List.replicate (nx+ny) 0) (wd 18446744073709551616 (X % 18446744073709551616^d*Y)) ((ae SG0).but hb2 (by simp)) (by simp) hv2 (by have:=ae HL;rw[List.length_replicate];omega)
have R1:=zxx (wd 18446744073709551616 (X % 18446744073709551616^d*Y)) (nx+ny)
have R2:=ztv (wd 18446744073709551616 (X % 18446744073709551616^d*Y)) (nx+ny) (ae HM1)
have R3:=ztw (wd 18446744073709551616 (X % 18446744073709551616^d*Y)) (nx+ny) (by have:=ae HL;omega)
rw[ae HV1] at R1
have hB3:But [] w w3:=((ae BM).trans' hb2).trans (ae HC).2.but (fun x hx=>by simp at hx;subst hx;exact .inr (Nat.le_refl _))
have hbx:But [w.heap.size] (w.alloc (.cells (madeCells #[.int .u64 0] (nx+ny)) 24)) w3:=(But.of_nil hb2).trans (ae HC).2.but (fun x hx=>.inl hx)
have hA3:Sl .u64 w3 (.slice a1 nx c1) (wd 18446744073709551616 X):=(ae HA).ah hB3
have hY3:Sl .u64 w3 (.slice a2 ny c2) (wd 18446744073709551616 Y):=(ae HB).ah hB3
have hsg3:=(ae HC).1
have hgs:w.heap.size<w3.heap.size:=Nat.lt_of_lt_of_le (ae HSZ) (Nat.le_trans hb2.size (ae HC).2.but.size)
generalize wd 18446744073709551616 (X % 18446744073709551616^d*Y)++(List.replicate (nx+ny) 0).drop (wd 18446744073709551616 (X % 18446744073709551616^d*Y)).length=r1 at *
have hA:=af (fun (v4:Value) (W:World) (h4:Sl .u64 W v4 (wd 18446744073709551616 (X / 18446744073709551616^d*Y))) (hO:Off w.heap.size v4) (hS:Seg W w.heap.size 0 r1)=>zql w.heap.size d (r1.length-d) r1 (X / 18446744073709551616^d*Y) v4 W hS (by omega) (Nat.le_refl _) h4 (fun _=>hO) R2 (by rw[R1,ae HHS,R3];exact ae HXYl) (by omega))
rw[R3] at hA
have HB3:=af hB3
have HA3:=af hA3
have HY3:=af hY3
have HSG3:=af hsg3
have HR:=af (And.intro R1 (And.intro R2 R3))
have HGS:=af hgs
clear R1 R2 R3 hB3 hbx hA3 hY3 hsg3 hb2 hv2 HC HV hgs
have i1:(0:Int)≤(d:Int):=by omega
have i2:(d:Int)<((nx+ny:Nat):Int):=by omega
go_wp2
go_region_with (first
 | (go_at_call 291;refine (uh (.slice a1 nx c1) X d _ (by exact ae HA3) (by rw[ae NX];omega) (by omega)).mono ?_;rintro e w4 ⟨v4,rfl,hv4,rfl⟩)
 | (go_at_call 196;refine (ae HIH v4 (.slice a2 ny c2) _ _ _ (by exact hv4) (by exact ae HY3) (by have:=ae HL;rw[ae NY];omega)).mono ?_;rintro e w5 ⟨v5,rfl,hv5,hb5,hf5⟩)
 | (go_at_call 266;refine (ae hA v5 _ (by exact hv5) (by exact qbi hf5 (by exact ae HGS) hy1 (ae HB) (by rw[ae NY];exact hy)) (by exact Seg.ah hb5 (by exact ae HSG3))).mono ?_;rintro e w6 ⟨rs2,c,rfl,hl2,hm2,hv6,hs6,hb6⟩))
all_goals(
have hB5:But [] w w5:=(ae HB3).trans' ((But.refl _ _).drew.trans' hb5)
have HB6:Hid (But [] w w6):=hB5.trans hb6 (fun x hx=>by simp at hx;subst hx;exact .inr (Nat.le_refl _))
have hsl:=hs6.sl (nx+ny) (by rw[hl2];exact Nat.le_refl _)
rw[hl2] at hsl
rw[(ae HR).1,ae HHS] at hv6
have HSL:=af hsl
have HM2:=af hm2
have HV6:=af hv6
have HL2:rs2.length<2147483648:=by rw[hl2];omega
clear hB5 hb5 hb6 hsl hm2 hv6 hv4 hv5 hf5 hs6 hl2 hA
go_wp2_with fail
refine (z8 _ rs2 _ (ae HSL) (ae HM2) HL2).mono ?_
rintro e w7 ⟨v7,rfl,hv7,hw,hsb⟩
obtain rfl:=hw.symm
clear hw
rw[ae HV6] at hv7
have HV7:=af hv7
have HSB:=af hsb
clear hv7 hsb
go_wp2
go_ret
exact⟨v7,rfl,ae HV7,ae HB6,eu (ae HSB) (Nat.le_refl _)⟩))
theorem qfz (X Y P:Nat) (x0 x1 y0 y1:Nat) (hX:X=x0+P*x1) (hY:Y=y0+P*y1):x0*y0+P*((x0+x1)*(y0+y1)-x0*y0-x1*y1)+P*P*(x1*y1)=X*Y:=by(
have e:(x0+x1)*(y0+y1)-x0*y0-x1*y1=x0*y1+x1*y0:=by
 have:(x0+x1)*(y0+y1)=x0*y0+x1*y1+(x0*y1+x1*y0):=by grind
 omega
rw[e,hX,hY]
grind)
theorem qgb (x0 x1 y0 y1:Nat):x0*y0≤(x0+x1)*(y0+y1):=Nat.mul_le_mul (by omega) (by omega)
theorem qga (x0 x1 y0 y1:Nat):x1*y1≤(x0+x1)*(y0+y1)-x0*y0:=by
 have:(x0+x1)*(y0+y1)=x0*y0+x1*y1+(x0*y1+x1*y0):=by grind
 omega
theorem zam (X Y k:Nat) (hx:X < 18446744073709551616^k) (hy:Y < 18446744073709551616^k):(wd 18446744073709551616 (X+Y)).length≤k+1:=aj (by omega) _ _ (by rw[Nat.pow_succ];omega)
theorem qmj (rs xs:List Nat) (o:Nat) (hl:o+xs.length≤rs.length) (hz:∀ j,o≤j→rs[j]?.getD 0=0):vl 18446744073709551616 (rs.take o++(xs++((rs.drop o).take (rs.length-o)).drop xs.length)++rs.drop (o+(rs.length-o)))=vl 18446744073709551616 rs + 18446744073709551616^o*vl 18446744073709551616 xs:=by(
have lt:(rs.take o).length=o:=by rw[List.length_take];omega
have e1:rs.drop (o+(rs.length-o))=[]:=List.drop_eq_nil_of_le (by omega)
have z1:vl 18446744073709551616 (rs.drop o)=0:=zci _ _ (fun j hj=>by rw[List.getElem?_drop];exact hz _ (by omega))
have z2:vl 18446744073709551616 (((rs.drop o).take (rs.length-o)).drop xs.length)=0:=zci _ _ (fun j hj=>by
 rw[List.getElem?_drop,List.getElem?_take]
 split
 ·rw[List.getElem?_drop];exact hz _ (by omega)
 ·rfl)
have h1:=congrArg (vl 18446744073709551616) (List.take_append_drop o rs)
rw[zt,z1,Nat.mul_zero,Nat.add_zero] at h1
rw[e1,List.append_nil,zt,lt,zt,z2,Nat.mul_zero,Nat.add_zero,h1])
theorem zzk (xs:List Nat) (n j:Nat) (h:xs.length≤j):(xs++(List.replicate n 0).drop xs.length)[j]?.getD 0=0:=by
 rw[List.getElem?_append_right h,List.getElem?_drop,List.getElem?_replicate]
 split <;> rfl
theorem zow (k:Nat) (IH:zzj k) (va vb:Value) (X Y d:Nat) (w:World) (ha:Sl .u64 w va (wd 18446744073709551616 X)) (hb:Sl .u64 w vb (wd 18446744073709551616 Y)) (hd:2<d) (hx:d<(wd 18446744073709551616 X).length) (hxx:(wd 18446744073709551616 X).length≤2*d) (hy:d<(wd 18446744073709551616 Y).length) (hyy:(wd 18446744073709551616 Y).length≤(wd 18446744073709551616 X).length) (hk1:2*d+2≤k) (hlx:(wd 18446744073709551616 X).length<134217728) :
  Calls prog 249 #[va,vb,.int .i64 (d:Int)] w fun e w'=>∃ v',e=.returned v'∧Sl .u64 w' v' (wd 18446744073709551616 (X*Y))∧But [] w w'∧ui w.heap.size v':=by(
obtain⟨x0,ex0⟩:∃ x0,x0=X % 18446744073709551616^d:=⟨_,rfl⟩
obtain⟨x1,ex1⟩:∃ x1,x1=X / 18446744073709551616^d:=⟨_,rfl⟩
obtain⟨y0,ey0⟩:∃ y0,y0=Y % 18446744073709551616^d:=⟨_,rfl⟩
obtain⟨y1,ey1⟩:∃ y1,y1=Y / 18446744073709551616^d:=⟨_,rfl⟩
have hp:0 < 18446744073709551616^d:=Nat.pow_pos (by omega)
have bx0:x0 < 18446744073709551616^d:=by rw[ex0];exact Nat.mod_lt _ hp
have by0:y0 < 18446744073709551616^d:=by rw[ey0];exact Nat.mod_lt _ hp
have lx1:(wd 18446744073709551616 x1).length=(wd 18446744073709551616 X).length-d:=by rw[ex1];exact xh d X
have ly1:(wd 18446744073709551616 y1).length=(wd 18446744073709551616 Y).length-d:=by rw[ey1];exact xh d Y
have bx1:x1 < 18446744073709551616^d:=ak (by omega) _ _ (by omega)
have by1:y1 < 18446744073709551616^d:=ak (by omega) _ _ (by omega)
have lx0:(wd 18446744073709551616 x0).length≤d:=aj (by omega) _ _ bx0
have ly0:(wd 18446744073709551616 y0).length≤d:=aj (by omega) _ _ by0
have lsx:=zam x0 x1 d bx0 bx1
have lsy:=zam y0 y1 d by0 by1
have lp:=qz (x0+x1) (y0+y1)
have ll:=qz x0 y0
have lh:=qz x1 y1
have hsum:=qfz X Y (18446744073709551616^d) x0 x1 y0 y1 (by rw[ex0,ex1];exact (Nat.mod_add_div _ _).symm) (by rw[ey0,ey1];exact (Nat.mod_add_div _ _).symm)
have hle1:=qgb x0 x1 y0 y1
have hle2:=qga x0 x1 y0 y1
have hXY:=zhg (zfa X) (zfa Y)
have lc1:(wd 18446744073709551616 ((x0+x1)*(y0+y1)-x0*y0)).length≤(wd 18446744073709551616 ((x0+x1)*(y0+y1))).length:=av (Nat.sub_le _ _)
obtain⟨a1,c1,rfl,hc1,-⟩:=id ha
obtain⟨a2,c2,rfl,hc2,-⟩:=id hb
have low1:=fun W (h:Sl .u64 W _ _)=>zeq (.slice a1 (wd 18446744073709551616 X).length c1) X d W h (by omega) (by omega)
have low2:=fun W (h:Sl .u64 W _ _)=>zeq (.slice a2 (wd 18446744073709551616 Y).length c2) Y d W h (by omega) (by omega)
have hi1:=fun W (h:Sl .u64 W _ _)=>uh (.slice a1 (wd 18446744073709551616 X).length c1) X d W h (by omega) (by omega)
have hi2:=fun W (h:Sl .u64 W _ _)=>uh (.slice a2 (wd 18446744073709551616 Y).length c2) Y d W h (by omega) (by omega)
rw[← ex0] at low1
rw[← ey0] at low2
rw[← ex1] at hi1
rw[← ey1] at hi2
have LOW1:=af low1
have LOW2:=af low2
have HI1:=af hi1
have HI2:=af hi2
have HA:=af ha
have HB:=af hb
have HIH:=af IH
have HSUM:=af hsum
have HLE1:=af hle1
have HLE2:=af hle2
have HXY:=af hXY
have HLEN:=af (And.intro lx1 (And.intro ly1 (And.intro lx0 (And.intro ly0 (And.intro lsx (And.intro lsy (And.intro lp (And.intro ll (And.intro lh lc1)))))))))
have HBND:=af (And.intro bx0 (And.intro by0 (And.intro bx1 by1)))
have hmk:=fun wx=>zfm wx (wd 18446744073709551616 X).length (wd 18446744073709551616 Y).length (by omega)
clear low1 low2 hi1 hi2 ha hb IH hsum hle1 hle2 hXY lx1 ly1 lx0 ly0 lsx lsy lp ll lh lc1 bx0 bx1 by0 by1 hp ex0 ex1 ey0 ey1
generalize hnx:(wd 18446744073709551616 X).length=nx at *
generalize hny:(wd 18446744073709551616 Y).length=ny at *
clear hnx hny
go_enter func249,ntmps249
go_wp2_with fail
refine (ae LOW1 _ (ae HA)).mono ?_
rintro e w1 ⟨vx0,rfl,hvx0,hw⟩
obtain rfl:=hw.symm
have HX0:=af hvx0
clear hw hvx0
go_wp2_with fail
refine (ae HI1 _ (ae HA)).mono ?_
rintro e w1 ⟨vx1,rfl,hvx1,hw⟩
obtain rfl:=hw.symm
have HX1:=af hvx1
clear hw hvx1
go_wp2_with fail
refine (ae LOW2 _ (ae HB)).mono ?_
rintro e w1 ⟨vy0,rfl,hvy0,hw⟩
obtain rfl:=hw.symm
have HY0:=af hvy0
clear hw hvy0
go_wp2_with fail
refine (ae HI2 _ (ae HB)).mono ?_
rintro e w1 ⟨vy1,rfl,hvy1,hw⟩
obtain rfl:=hw.symm
have HY1:=af hvy1
clear hw hvy1
go_wp2_with fail
refine (ae HIH vx0 vy0 x0 y0 _ (ae HX0) (ae HY0) (by have:=ae HLEN;omega)).mono ?_
rintro e w1 ⟨vl0,rfl,hvl,hb1,-⟩
have HL:=af hvl
have B1:=af hb1
clear hvl hb1
go_wp2_with fail
refine (ae HIH vx1 vy1 x1 y1 _ ((ae HX1).ah (ae B1)) ((ae HY1).ah (ae B1)) (by have:=ae HLEN;omega)).mono ?_
rintro e w2 ⟨vh0,rfl,hvh,hb2,-⟩
have HH:=af hvh
have B2:Hid (But [] w w2):=(ae B1).trans' hb2
have HL2:=af ((ae HL).ah hb2)
clear hvh hb2
go_wp2_with fail
refine (rf vx0 vx1 x0 x1 _ ((ae HX0).ah (ae B2)) ((ae HX1).ah (ae B2)) (by have:=ae HLEN;omega) (by have:=ae HLEN;omega)).mono ?_
rintro e w3 ⟨vsx,rfl,hvsx,hb3⟩
have HSX:=af hvsx
have B3:Hid (But [] w w3):=(ae B2).trans' hb3
have B23:=af hb3
clear hvsx hb3
go_wp2_with fail
refine (rf vy0 vy1 y0 y1 _ ((ae HY0).ah (ae B3)) ((ae HY1).ah (ae B3)) (by have:=ae HLEN;omega) (by have:=ae HLEN;omega)).mono ?_
rintro e w4 ⟨vsy,rfl,hvsy,hb4⟩
have HSY:=af hvsy
have B4:Hid (But [] w w4):=(ae B3).trans' hb4
have B24:Hid (But [] w2 w4):=(ae B23).trans' hb4
have HSX4:=af ((ae HSX).ah hb4)
clear hvsy hb4
go_wp2_with fail
refine (ae HIH vsx vsy (x0+x1) (y0+y1) _ (ae HSX4) (ae HSY) (by have:=ae HLEN;omega)).mono ?_
rintro e w5 ⟨vp,rfl,hvp,hb5,-⟩
have HP:=af hvp
have B5:Hid (But [] w w5):=(ae B4).trans' hb5
have B25:Hid (But [] w2 w5):=(ae B24).trans' hb5
clear hvp hb5
go_wp2_with fail
refine (zcm vp vl0 _ (x0*y0) _ (ae HP) ((ae HL2).ah (ae B25)) (by have:=ae HLEN;omega) (ae HLE1)).mono ?_
rintro e w6 ⟨vc1,rfl,hvc1,hb6⟩
have HC1:=af hvc1
have B6:Hid (But [] w w6):=(ae B5).trans' hb6
have B26:Hid (But [] w2 w6):=(ae B25).trans' hb6
clear hvc1 hb6
go_wp2_with fail
refine (zcm vc1 vh0 _ (x1*y1) _ (ae HC1) ((ae HH).ah (ae B26)) (by have:=ae HLEN;omega) (ae HLE2)).mono ?_
rintro e w7 ⟨vc,rfl,hvc,hb7⟩
have HCR:=af hvc
have B7:Hid (But [] w w7):=(ae B6).trans' hb7
have B27:Hid (But [] w2 w7):=(ae B26).trans' hb7
clear hvc hb7 B26 B25 B24 B23 B6 B5 B4 B3 B1 HX0 HX1 HY0 HY1 HSX HSY HSX4 HP HC1 HA HB HIH LOW1 LOW2 HI1 HI2
have hbm:=ky w7 (nx+ny) 24
obtain⟨w8,hcp,HC⟩:=jl (P:=prog) (w7.alloc (.cells (madeCells #[.int .u64 0] (nx+ny)) 24)) 130 131 24 underlying130 o5 w7.heap.size 0 (nx+ny) (nx+ny) vl0 (List.replicate (nx+ny) 0) (wd 18446744073709551616 (x0*y0)) (Seg.made _ _ _) (by simp) (((ae HL2).ah (ae B27)).ah hbm) (by have:=ae HLEN;rw[List.length_replicate];omega)
have R1:=zxx (wd 18446744073709551616 (x0*y0)) (nx+ny)
have R2:=ztv (wd 18446744073709551616 (x0*y0)) (nx+ny) (zn (by omega) _)
have R3:=ztw (wd 18446744073709551616 (x0*y0)) (nx+ny) (by have:=ae HLEN;omega)
have R4:=fun j (hj:2*d≤j)=>zzk (wd 18446744073709551616 (x0*y0)) (nx+ny) j (by have:=ae HLEN;omega)
rw[qg (by omega)] at R1
have hsg8:=(ae HC).1
have hb8:But [w7.heap.size] (w7.alloc (.cells (madeCells #[.int .u64 0] (nx+ny)) 24)) w8:=(ae HC).2.but
have B8:But [] w7 w8:=hbm.trans hb8 (fun x hx=>by simp at hx;subst hx;exact .inr (Nat.le_refl _))
have hg8:w7.heap.size<w8.heap.size:=Nat.lt_of_lt_of_le (by simp) hb8.size
generalize wd 18446744073709551616 (x0*y0)++(List.replicate (nx+ny) 0).drop (wd 18446744073709551616 (x0*y0)).length=r1 at *
have hsub:=hsg8.sub (2*d) (r1.length-2*d) (by omega)
have lsub:((r1.drop (2*d)).take (r1.length-2*d)).length=r1.length-2*d:=by rw[List.length_take,List.length_drop];omega
obtain⟨w9,hcp2,HC2⟩:=jl (P:=prog) w8 130 131 24 underlying130 o5 w7.heap.size (0+2*d) (r1.length-2*d) (r1.length-2*d) vh0 ((r1.drop (2*d)).take (r1.length-2*d)) (wd 18446744073709551616 (x1*y1)) hsub lsub.symm ((ae HH).ah ((ae B27).trans' B8)) (by have:=ae HLEN;rw[lsub];omega)
have hS2:=hsg8.whole ((ae HC2).2.wide (Nat.le_refl _) (n':=r1.length-2*d) (by have:=ae HLEN;omega)) (ae HC2).1 (by rw[List.length_append,List.length_drop,lsub];have:=ae HLEN;omega) (by omega)
have V2:=qmj r1 (wd 18446744073709551616 (x1*y1)) (2*d) (by have:=ae HLEN;omega) (fun j hj=>R4 j hj)
rw[qg (by omega),R1] at V2
have M2:∀ x ∈ r1.take (2*d)++(wd 18446744073709551616 (x1*y1)++((r1.drop (2*d)).take (r1.length-2*d)).drop (wd 18446744073709551616 (x1*y1)).length)++r1.drop (2*d+(r1.length-2*d)),x < 18446744073709551616:=by
 intro x hx
 simp only[List.mem_append] at hx
 rcases hx with (hx | hx | hx) | hx
 ·exact R2 x (List.mem_of_mem_take hx)
 ·exact zn (by omega) _ x hx
 ·exact R2 x (List.mem_of_mem_drop (List.mem_of_mem_take (List.mem_of_mem_drop hx)))
 ·exact R2 x (List.mem_of_mem_drop hx)
have L2:(r1.take (2*d)++(wd 18446744073709551616 (x1*y1)++((r1.drop (2*d)).take (r1.length-2*d)).drop (wd 18446744073709551616 (x1*y1)).length)++r1.drop (2*d+(r1.length-2*d))).length=nx+ny:=by
 simp only[List.length_append,List.length_take,List.length_drop]
 have:=ae HLEN
 omega
rw[Nat.zero_add] at hS2 hcp2
generalize r1.take (2*d)++(wd 18446744073709551616 (x1*y1)++((r1.drop (2*d)).take (r1.length-2*d)).drop (wd 18446744073709551616 (x1*y1)).length)++r1.drop (2*d+(r1.length-2*d))=r2 at *
have hfit:vl 18446744073709551616 r2 + 18446744073709551616^d*((x0+x1)*(y0+y1)-x0*y0-x1*y1)=X*Y:=by
 rw[V2,← ae HSUM,Nat.two_mul,Nat.pow_add];omega
have hb9:But [w7.heap.size] w8 w9:=(ae HC2).2.but
have B9:But [] w7 w9:=B8.trans hb9 (fun x hx=>by simp at hx;subst hx;exact .inr (Nat.le_refl _))
have hadd:=zql w7.heap.size d (r2.length-d) r2 ((x0+x1)*(y0+y1)-x0*y0-x1*y1) vc w9 hS2 (by omega) (Nat.le_refl _) ((ae HCR).ah B9) (fun hp=>ug (ae HCR) hp _ (Nat.le_refl _)) M2 (by rw[hfit,L2];exact ae HXY) (by omega)
rw[L2,hfit] at hadd
rw[R3] at hcp2
have HADD:=af hadd
have HB9:Hid (But [] w w9):=(ae B7).trans' B9
have HGE:w.heap.size≤w7.heap.size:=(ae B7).size
clear hadd hfit hS2 V2 M2 L2 hb9 B9 R1 R2 R3 R4 HC HC2 hsub lsub hsg8 hb8 B8 hg8 hbm HCR HH HL HL2 HXY HSUM HLE1 HLE2 HBND HLEN B7 B27 B2
have i1:(0:Int)≤(d:Int):=by omega
have i2:(d:Int)<((nx+ny:Nat):Int):=by omega
have i3:(2*(d:Int))<((nx+ny:Nat):Int):=by omega
go_wp2_with fail
refine (ae HADD).mono ?_
rintro e w10 ⟨rs2,c,rfl,hl2,hm2,hv2,hs2,hb2⟩
have hB10:Hid (But [] w w10):=(ae HB9).trans hb2 (fun x hx=>by simp at hx;subst hx;exact .inr HGE)
have hsl:=hs2.sl (nx+ny) (by rw[hl2];exact Nat.le_refl _)
rw[hl2] at hsl
have HSL:=af hsl
have HM2:=af hm2
have HV2:=af hv2
have HL2:rs2.length<2147483648:=by rw[hl2];omega
clear hsl hm2 hv2 hl2 hs2 hb2 HADD HB9
go_wp2_with fail
refine (z8 _ rs2 _ (ae HSL) (ae HM2) HL2).mono ?_
rintro e w11 ⟨v7,rfl,hv7,hw,hsb⟩
obtain rfl:=hw.symm
clear hw
rw[ae HV2] at hv7
have HV7:=af hv7
have HSB:=af hsb
clear hv7 hsb
go_wp2
go_ret
exact⟨v7,rfl,ae HV7,ae hB10,eu (ae HSB) HGE⟩)
theorem zfv (k:Nat) (X Y:Nat) (IH:40<(wd 18446744073709551616 Y).length→zzj k) (va vb:Value) (w:World) (ha:Sl .u64 w va (wd 18446744073709551616 X)) (hb:Sl .u64 w vb (wd 18446744073709551616 Y)) (hle:(wd 18446744073709551616 Y).length≤(wd 18446744073709551616 X).length) (hk:(wd 18446744073709551616 X).length+(wd 18446744073709551616 Y).length≤k+1) (hl:(wd 18446744073709551616 X).length<134217728) (u v:Value) (huv:(u=va∧v=vb)∨((wd 18446744073709551616 Y).length<(wd 18446744073709551616 X).length∧u=vb∧v=va)) :
  Calls prog 196 #[u,v] w fun e w'=>∃ v',e=.returned v'∧Sl .u64 w' v' (wd 18446744073709551616 (X*Y))∧But [] w w'∧(ui w.heap.size v'∨(v'=va∧Y=1)):=by(
obtain⟨a1,c1,rfl,hc1,-⟩:=id ha
obtain⟨a2,c2,rfl,hc2,-⟩:=id hb
by_cases h0:(wd 18446744073709551616 Y).length=0
·(
have e:Y=0:=(zh (by omega) Y).1 h0
subst e
rw[Nat.mul_zero,zi]
simp only[zi,List.length_nil] at *
generalize (wd 18446744073709551616 X).length=nx at *
clear ha hb IH
rcases huv with ⟨rfl,rfl⟩|⟨hlt,rfl,rfl⟩
all_goals(
go_enter func196,ntmps196
go_wp2
go_ret
exact⟨_,rfl,Sl.nil _ _,But.refl _ _,.inl fun b off n c e=>by simp at e⟩))
by_cases hY1:Y=1
·(
have HO:=af (fun W (h:Sl .u64 W (.slice a2 (wd 18446744073709551616 Y).length c2) (wd 18446744073709551616 Y))=>mo _ Y W h (by omega) true (by show true=_;rw[hY1];rfl))
have HA:=af ha
have HB:=af hb
have HX:Hid (wd 18446744073709551616 X=wd 18446744073709551616 (X*Y)):=by show _=_;rw[hY1,Nat.mul_one]
have HY:=af hY1
clear ha hb IH hY1
generalize (wd 18446744073709551616 X).length=nx at *
generalize (wd 18446744073709551616 Y).length=ny at *
have n0:((ny:Int)==0)=false:=beq_eq_false_iff_ne.2 (by omega)
rcases huv with ⟨rfl,rfl⟩|⟨hlt,rfl,rfl⟩
all_goals(
go_enter func196,ntmps196
go_wp2_with fail
refine (ae HO _ (ae HB)).mono ?_
rintro e w1 ⟨rfl,h⟩
obtain rfl:=h.symm
clear h
go_wp2
go_ret
exact⟨_,rfl,by rw[← ae HX];exact ae HA,But.refl _ _,.inr ⟨rfl,ae HY⟩⟩))
·(
have HO:=af (fun W (h:Sl .u64 W (.slice a2 (wd 18446744073709551616 Y).length c2) (wd 18446744073709551616 Y))=>mo _ Y W h (by omega) false (by show false=_;simp;exact hY1))
have HBB:=af hb
by_cases hs:(wd 18446744073709551616 Y).length≤40
·(
have hm:=zrl _ _ _ _ w ha hb (zn (by omega) X) (zn (by omega) Y) (by omega) (by omega) (by omega) (by omega)
rw[qg (by omega),qg (by omega)] at hm
have HM:=af hm
clear hm ha hb IH
generalize (wd 18446744073709551616 X).length=nx at *
generalize (wd 18446744073709551616 Y).length=ny at *
have n0:((ny:Int)==0)=false:=beq_eq_false_iff_ne.2 (by omega)
rcases huv with ⟨rfl,rfl⟩|⟨hlt,rfl,rfl⟩
all_goals(
go_enter func196,ntmps196
go_wp2_with fail
refine (ae HO _ (ae HBB)).mono ?_
rintro e w1 ⟨rfl,h⟩
obtain rfl:=h.symm
clear h
go_wp2_with fail
refine (ae HM).mono ?_
rintro e w1 ⟨v',rfl,h1,h2,h3⟩
have H1:=af (And.intro h1 (And.intro h2 h3))
clear h1 h2 h3
go_wp2
go_ret
exact⟨v',rfl,(ae H1).1,(ae H1).2.1,.inl (ae H1).2.2⟩))
·(
obtain⟨d,hd⟩:∃ d,d=((wd 18446744073709551616 X).length+1)/2:=⟨_,rfl⟩
by_cases hh:(wd 18446744073709551616 Y).length≤d
·(
have hm:=zos k (IH (by omega)) _ _ X Y d w ha hb (by omega) (by omega) (by omega) hY1 (by omega) (by omega) (by omega) (by omega)
have HM:=af hm
clear hm ha hb IH
generalize (wd 18446744073709551616 X).length=nx at *
generalize (wd 18446744073709551616 Y).length=ny at *
have e1:((nx:Int)+1)/2=(d:Int):=by omega
have n0:((ny:Int)==0)=false:=beq_eq_false_iff_ne.2 (by omega)
have h1':2*d≤nx+1:=by omega
have h2':nx≤2*d:=by omega
clear hd
rcases huv with ⟨rfl,rfl⟩|⟨hlt,rfl,rfl⟩
all_goals(
go_enter func196,ntmps196
go_wp2_with fail
refine (ae HO _ (ae HBB)).mono ?_
rintro e w1 ⟨rfl,h⟩
obtain rfl:=h.symm
clear h
go_wp2_with fail
refine (ae HM).mono ?_
rintro e w1 ⟨v',rfl,h1,h2,h3⟩
have H1:=af (And.intro h1 (And.intro h2 h3))
clear h1 h2 h3
go_wp2
go_ret
exact⟨v',rfl,(ae H1).1,(ae H1).2.1,.inl (ae H1).2.2⟩))
·(
have hm:=zow k (IH (by omega)) _ _ X Y d w ha hb (by omega) (by omega) (by omega) (by omega) (by omega) (by omega) (by omega)
have HM:=af hm
clear hm ha hb IH
generalize (wd 18446744073709551616 X).length=nx at *
generalize (wd 18446744073709551616 Y).length=ny at *
have e1:((nx:Int)+1)/2=(d:Int):=by omega
have n0:((ny:Int)==0)=false:=beq_eq_false_iff_ne.2 (by omega)
have h1':2*d≤nx+1:=by omega
have h2':nx≤2*d:=by omega
clear hd
rcases huv with ⟨rfl,rfl⟩|⟨hlt,rfl,rfl⟩
all_goals(
go_enter func196,ntmps196
go_wp2_with fail
refine (ae HO _ (ae HBB)).mono ?_
rintro e w1 ⟨rfl,h⟩
obtain rfl:=h.symm
clear h
go_wp2_with fail
refine (ae HM).mono ?_
rintro e w1 ⟨v',rfl,h1,h2,h3⟩
have H1:=af (And.intro h1 (And.intro h2 h3))
clear h1 h2 h3
go_wp2
go_ret
exact⟨v',rfl,(ae H1).1,(ae H1).2.1,.inl (ae H1).2.2⟩)))))
theorem qnl (k:Nat) (hk:k<134217728):zzj k:=by(
induction k with
| zero =>
 intro va vb m n w ha hb h
 have hm:(wd 18446744073709551616 m).length=0:=by omega
 have hn:(wd 18446744073709551616 n).length=0:=by omega
 exact (zfv 0 m n (fun h=>by omega) va vb w ha hb (by omega) (by omega) (by omega) va vb (.inl ⟨rfl,rfl⟩)).mono fun e w' ⟨v',h1,h2,h3,h4⟩=>⟨v',h1,h2,h3,h4.elim .inl fun h=>.inr (.inl h)⟩
| succ k ih =>
 intro va vb m n w ha hb h
 rcases Nat.lt_or_ge (wd 18446744073709551616 m).length (wd 18446744073709551616 n).length with hlt | hge
 ·have:=zfv k n m (fun _=>ih (by omega)) vb va w hb ha (by omega) (by omega) (by omega) va vb (.inr ⟨hlt,rfl,rfl⟩)
  rw[Nat.mul_comm] at this
  exact this.mono fun e w' ⟨v',h1,h2,h3,h4⟩=>⟨v',h1,h2,h3,h4.elim .inl fun h=>.inr (.inr h)⟩
 ·exact (zfv k m n (fun _=>ih (by omega)) va vb w ha hb hge (by omega) (by omega) va vb (.inl ⟨rfl,rfl⟩)).mono fun e w' ⟨v',h1,h2,h3,h4⟩=>⟨v',h1,h2,h3,h4.elim .inl fun h=>.inr (.inl h)⟩)
theorem je (va vb:Value) (m n:Nat) (w:World) (ha:Sl .u64 w va (wd 18446744073709551616 m)) (hb:Sl .u64 w vb (wd 18446744073709551616 n)) (hl:(wd 18446744073709551616 m).length+(wd 18446744073709551616 n).length<134217728) :
  Calls prog 196 #[va,vb] w fun e w'=>∃ v',e=.returned v'∧Sl .u64 w' v' (wd 18446744073709551616 (m*n))∧But [] w w'∧zvh w.heap.size v' va vb m n :=
 qnl _ hl va vb m n w ha hb (Nat.le_refl _)
end Go.Proofs.YtpmjeclpkahkmaaGreatDoor
namespace Go.Proofs
open Go.Proofs.Tryz
open Go.Shelf
def Tryz.lays283_ren : Go.Shelf.Ren := ⟨fun | 283 => 268 | n => n, fun | 3 => 3 | 4 => 4 | 9 => 9 | n => n, fun | n => n⟩
theorem Tryz.lays283 : Go.Proofs.Lays.n283 Tryz.prog Tryz.lays283_ren := {
  mixed := by kernel_rfl
  f283 := Tryz.func268.trans (congrArg some (by kernel_rfl))
  t3 := Tryz.underlying3
  a3 := Tryz.isAgg3
  z3 := Tryz.sizeOf3
  v3 := Tryz.zeroValue3
  t4 := Tryz.underlying4
  a4 := Tryz.isAgg4
  z4 := Tryz.sizeOf4
  v4 := Tryz.zeroValue4
  t9 := Tryz.underlying9
  a9 := Tryz.isAgg9
  z9 := Tryz.sizeOf9
  v9 := Tryz.zeroValue9 }
open Go.Lib in
theorem Tryz.internal_strconv_small (i:Nat) (h:i<100) (w:World) :
  Calls prog 268 #[.int .i64 i] w fun e w'=>e=.returned (.string ⟨(Lib.decDigits i).toArray⟩)∧w'=w:=Any.internal_strconv_small Tryz.lays283 i h w
def Tryz.laysM284_ren : Go.Shelf.Ren := ⟨fun | 129 => 302 | 284 => 269 | 317 => 301 | 318 => 303 | n => n, fun | 0 => 0 | 3 => 3 | 4 => 4 | 5 => 5 | 9 => 9 | 46 => 321 | 53 => 24 | 212 => 355 | n => n, fun | 17 => 2 | n => n⟩
theorem Tryz.laysM284 : Go.Proofs.LaysM.n284 Tryz.prog Tryz.laysM284_ren := {
  mixed := by kernel_rfl
  f129 := Tryz.func302.trans (congrArg some (by kernel_rfl))
  f284 := Tryz.func269.trans (congrArg some (by kernel_rfl))
  f317 := Tryz.func301.trans (congrArg some (by kernel_rfl))
  f318 := Tryz.func303.trans (congrArg some (by kernel_rfl))
  t0 := Tryz.underlying0
  a0 := Tryz.isAgg0
  z0 := Tryz.sizeOf0
  v0 := Tryz.zeroValue0
  t3 := Tryz.underlying3
  a3 := Tryz.isAgg3
  z3 := Tryz.sizeOf3
  v3 := Tryz.zeroValue3
  t4 := Tryz.underlying4
  a4 := Tryz.isAgg4
  z4 := Tryz.sizeOf4
  v4 := Tryz.zeroValue4
  t5 := Tryz.underlying5
  a5 := Tryz.isAgg5
  z5 := Tryz.sizeOf5
  v5 := Tryz.zeroValue5
  t9 := Tryz.underlying9
  a9 := Tryz.isAgg9
  z9 := Tryz.sizeOf9
  v9 := Tryz.zeroValue9
  t46 := Tryz.underlying321
  a46 := Tryz.isAgg321
  z46 := Tryz.sizeOf321
  v46 := Tryz.zeroValue321
  t53 := Tryz.underlying24
  a53 := Tryz.isAgg24
  z53 := Tryz.sizeOf24
  v53 := Tryz.zeroValue24
  t212 := Tryz.underlying355
  a212 := Tryz.isAgg355
  z212 := Tryz.sizeOf355
  v212 := Tryz.zeroValue355
  g17 := by kernel_rfl
  m17 := by kernel_rfl
  i0 := by kernel_rfl
  i3 := by kernel_rfl
  i4 := by kernel_rfl
  i5 := by kernel_rfl
  i9 := by kernel_rfl
  i46 := by kernel_rfl
  i53 := by kernel_rfl
  i212 := by kernel_rfl }
open Go.Lib in
theorem Tryz.internal_strconv_numDigits (u:Nat) (h1:1≤u) (h2:u<18446744073709551616) (w:World) (htab:Lib.TabIs prog w "internal/strconv.uint64pow10" .u64 Lib.pow10Tab) :
  Calls prog 269 #[.int .u64 u] w fun e w'=>e=.returned (.int .i64 (Lib.nDigits u))∧w'=w:=Any.internal_strconv_numDigits Tryz.laysM284 u h1 h2 w htab
def Tryz.lays285_ren : Go.Shelf.Ren := ⟨fun | 285 => 270 | n => n, fun | 0 => 0 | 3 => 3 | 4 => 4 | 5 => 5 | 9 => 9 | 37 => 164 | 51 => 299 | 53 => 24 | n => n, fun | n => n⟩
theorem Tryz.lays285 : Go.Proofs.Lays.n285 Tryz.prog Tryz.lays285_ren := {
  mixed := by kernel_rfl
  f285 := Tryz.func270.trans (congrArg some (by kernel_rfl))
  t0 := Tryz.underlying0
  a0 := Tryz.isAgg0
  z0 := Tryz.sizeOf0
  v0 := Tryz.zeroValue0
  t3 := Tryz.underlying3
  a3 := Tryz.isAgg3
  z3 := Tryz.sizeOf3
  v3 := Tryz.zeroValue3
  t4 := Tryz.underlying4
  a4 := Tryz.isAgg4
  z4 := Tryz.sizeOf4
  v4 := Tryz.zeroValue4
  t5 := Tryz.underlying5
  a5 := Tryz.isAgg5
  z5 := Tryz.sizeOf5
  v5 := Tryz.zeroValue5
  t9 := Tryz.underlying9
  a9 := Tryz.isAgg9
  z9 := Tryz.sizeOf9
  v9 := Tryz.zeroValue9
  t37 := Tryz.underlying164
  a37 := Tryz.isAgg164
  z37 := Tryz.sizeOf164
  v37 := Tryz.zeroValue164
  t51 := Tryz.underlying299
  a51 := Tryz.isAgg299
  z51 := Tryz.sizeOf299
  v51 := Tryz.zeroValue299
  t53 := Tryz.underlying24
  a53 := Tryz.isAgg24
  z53 := Tryz.sizeOf24
  v53 := Tryz.zeroValue24 }
open Go.RowKit Go.Sort Go.Lib in
theorem Tryz.internal_strconv_formatBase10 (blk off cap:Nat) (u:Nat) (d:Array UInt8) (w:World) (hH:Holds (fun (b:UInt8)=>Value.int .u8 (b.toNat:Int)) w blk off d) (hu:u<10^d.size) (hu64:u<18446744073709551616) (hsz:d.size<4611686018427387904) :
  Calls prog 270 #[.slice (some ⟨blk,off,none⟩) d.size cap,.int .u64 u] w fun e w' =>
   e=.returned (.tuple #[])∧∃ (n v':Nat) (dk:Array UInt8),w'=(putRow (fun (b:UInt8)=>Value.int .u8 (b.toNat:Int)) w blk off dk).drewN n∧FmtInv d.size u 0 v' dk:=Any.internal_strconv_formatBase10 Tryz.lays285 blk off cap u d w hH hu hu64 hsz
def Tryz.lays125_ren : Go.Shelf.Ren := ⟨fun | 125 => 277 | 128 => 309 | 129 => 302 | n => n, fun | 3 => 3 | 4 => 4 | 5 => 5 | 9 => 9 | 46 => 321 | 51 => 299 | 53 => 24 | n => n, fun | n => n⟩
theorem Tryz.lays125 : Go.Proofs.Lays.n125 Tryz.prog Tryz.lays125_ren := {
  mixed := by kernel_rfl
  f125 := Tryz.func277.trans (congrArg some (by kernel_rfl))
  f128 := Tryz.func309.trans (congrArg some (by kernel_rfl))
  f129 := Tryz.func302.trans (congrArg some (by kernel_rfl))
  t3 := Tryz.underlying3
  a3 := Tryz.isAgg3
  z3 := Tryz.sizeOf3
  v3 := Tryz.zeroValue3
  t4 := Tryz.underlying4
  a4 := Tryz.isAgg4
  z4 := Tryz.sizeOf4
  v4 := Tryz.zeroValue4
  t5 := Tryz.underlying5
  a5 := Tryz.isAgg5
  z5 := Tryz.sizeOf5
  v5 := Tryz.zeroValue5
  t9 := Tryz.underlying9
  a9 := Tryz.isAgg9
  z9 := Tryz.sizeOf9
  v9 := Tryz.zeroValue9
  t46 := Tryz.underlying321
  a46 := Tryz.isAgg321
  z46 := Tryz.sizeOf321
  v46 := Tryz.zeroValue321
  t51 := Tryz.underlying299
  a51 := Tryz.isAgg299
  z51 := Tryz.sizeOf299
  v51 := Tryz.zeroValue299
  t53 := Tryz.underlying24
  a53 := Tryz.isAgg24
  z53 := Tryz.sizeOf24
  v53 := Tryz.zeroValue24 }
theorem Tryz.bits_Len (x:Int) (w:World) (h0:0≤x) (h1:x≤18446744073709551615) :
  Calls prog 277 #[.int .u64 x] w fun e w'=>e=.returned (.int .i64 (Lib.bitLen x.toNat))∧w'=w:=Any.bits_Len Tryz.lays125 x w h0 h1
end Go.Proofs
namespace Go.Proofs.YtpmjeclpkahkmaaGreatDoor
open Go.Proofs.Tryz
open Go.RowKit
set_option maxHeartbeats 4000000
set_option maxRecDepth 100000
theorem zuk (a:Nat) (ha:a<9223372036854775808):bits .and .i64 (a:Int) 1=((a%2:Nat):Int):=by(
have h1:(BitVec.ofInt 64 (a:Int)).toNat=a:=by
 rw[BitVec.ofInt_natCast,BitVec.toNat_ofNat];exact Nat.mod_eq_of_lt (by omega)
have h2:(BitVec.ofInt 64 (1:Int)).toNat=1:=rfl
show IntKind.i64.wrap ((BitVec.ofInt 64 (a:Int) &&& BitVec.ofInt 64 (1:Int)).toNat:Int)=_
rw[BitVec.toNat_and,h1,h2,Nat.and_one_is_mod,IntKind.wrap_i64]
omega)
theorem zkd (n i:Nat):n/2^i=2*(n/2^(i+1))+n/2^i%2:=by
 rw[Nat.pow_succ,← Nat.div_div_eq_div_mul];omega
theorem pow_even (X n i:Nat) (h:n/2^i%2=0):X^(n/2^(i+1))*X^(n/2^(i+1))=X^(n/2^i):=by
 rw[zkd n i,h,← Nat.pow_add];congr 1;omega
theorem pow_odd (X n i:Nat) (h:n/2^i%2=1):X^(n/2^(i+1))*X^(n/2^(i+1))*X=X^(n/2^i):=by
 rw[zkd n i,h,← Nat.pow_add,← Nat.pow_succ];congr 1;omega
theorem zpq (n:Nat) (h:n < 18446744073709551616):n<2^Lib.bitLen n∧Lib.bitLen n≤64:=by(
by_cases h0:n=0
·subst h0;exact⟨by decide,by decide⟩
·exact⟨(Lib.bitLenAux_bounds 64 n h h0).2.2,Lib.bitLen_le n 64 (by omega) h⟩)
theorem znh (v:Value) (X n:Nat) (w:World) (hv:Sl .u64 w v (wd 18446744073709551616 X)) (hX:0<X) (hn:n<2147483648) (hl:(wd 18446744073709551616 X).length+(wd 18446744073709551616 (X^n)).length<67108864) :
  Calls prog 230 #[v,.int .i64 (n:Int)] w fun e w'=>∃ v',e=.returned v'∧Sl .u64 w' v' (wd 18446744073709551616 (X^n))∧But [] w w':=by(
obtain⟨L,hL⟩:∃ L,L=Lib.bitLen n:=⟨_,rfl⟩
have hb:=zpq n (by omega)
have BL:=af (fun W=>Tryz.bits_Len (n:Int) W (by omega) (by omega))
rw[Int.toNat_natCast,← hL] at BL
rw[← hL] at hb
obtain⟨hb1,hb2⟩:=hb
have hlen:Hid (∀ i,(wd 18446744073709551616 (X^(n/2^i))).length<67108864∧(wd 18446744073709551616 X).length+(wd 18446744073709551616 (X^(n/2^i))).length<67108864):=fun i=>by
 have:=av (Nat.pow_le_pow_right hX (Nat.div_le_self n (2^i)))
 omega
have hlen2:Hid (∀ i,(wd 18446744073709551616 (X^(n/2^(i+1))*X^(n/2^(i+1)))).length+(wd 18446744073709551616 X).length<67108864):=fun i=>by
 rw[← Nat.pow_add]
 have h3:=zkd n i
 have h4:=Nat.div_le_self n (2^i)
 have:=av (Nat.pow_le_pow_right hX (show n/2^(i+1)+n/2^(i+1)≤n from by omega))
 omega
have HV:=af hv
have hdiv:n/2^L=0:=Nat.div_eq_of_lt hb1
have hst:Hid ((1:Nat)=X^(n/2^L)):=by show _=_;rw[hdiv,Nat.pow_zero]
clear hv hl hdiv hb1 hL
obtain⟨xa,xc,rfl,-,-⟩:=ae HV
generalize hnx:(wd 18446744073709551616 X).length=nx at *
have HNX:=af hnx
clear hnx
go_enter func230,ntmps230
go_wp2_with fail
refine (jh 1 (by omega) _).mono ?_
rintro e w1 ⟨v1,rfl,hv1,hb1,-⟩
have H1:=af hv1
have B1:=af hb1
clear hv1 hb1
go_wp2_with fail
refine (ae BL _).mono ?_
rintro e w2 ⟨rfl,hw⟩
obtain rfl:=hw.symm
clear hw
go_wp2
go_loopw [5,6] (fun o i wr=>∃ k:Nat,k≤L∧i=.int .i64 ((k:Int)-1)∧Hid (Sl .u64 wr o (wd 18446744073709551616 (X^(n/2^k)))∧But [] w wr)) (fun _ i _=>(intOf i+1).toNat)
case atStart=>exact⟨L,Nat.le_refl _,rfl,by rw[← ae hst];exact ae H1,ae B1⟩
case round =>(
obtain⟨k,hk,rfl,HI⟩:=hrel
rename World=>wr
by_cases hk0:k=0
·(
subst hk0
go_wp2
go_ret
have h:=(ae HI).1
rw[Nat.pow_zero,Nat.div_one] at h
exact⟨_,rfl,h,(ae HI).2⟩)
·(
obtain⟨i,rfl⟩:∃ i,k=i+1:=⟨k-1,by omega⟩
rw[show (((i+1:Nat):Int)-1)=(i:Int) from by omega]
have hq:n/2^i<9223372036854775808:=by have:=Nat.div_le_self n (2^i);omega
have E1:bits .and .i64 ((n:Int)/2^i) 1=((n/2^i%2:Nat):Int):=by
 have e:(n:Int)/2^i=((n/2^i:Nat):Int):=by simp
 rw[e,zuk _ hq]
obtain⟨a,c,ho⟩:∃ a c,u5=.slice a (wd 18446744073709551616 (X^(n/2^(i+1)))).length c:=by obtain⟨a,c,e,-,-⟩:=(ae HI).1;exact⟨a,c,e⟩
have MU:=af (je u5 u5 _ _ wr (ae HI).1 (ae HI).1 (by have:=(ae hlen (i+1)).1;omega))
have L2:=af (ae hlen2 i)
subst ho
generalize hm:(wd 18446744073709551616 (X^(n/2^(i+1)))).length=m at *
clear hm
rcases Nat.mod_two_eq_zero_or_one (n/2^i) with hpar | hpar
·(
have e1:(((n/2^i%2:Nat):Int)==1)=false:=by rw[hpar];rfl
have EV:=af (pow_even X n i hpar)
generalize n/2^i%2=b at *
go_wp2_with fail
refine (ae MU).mono ?_
rintro e w3 ⟨v3,rfl,hv3,hb3,-⟩
rw[ae EV] at hv3
have H3:=af hv3
have B3:Hid (But [] w w3):=(ae HI).2.trans' hb3
clear hv3 hb3
go_wp2
refine⟨⟨i,by omega,rfl,ae H3,ae B3⟩,?_⟩
simp[intOf])
·(
have e1:(((n/2^i%2:Nat):Int)==1)=true:=by rw[hpar];rfl
have EV:=af (pow_odd X n i hpar)
generalize n/2^i%2=b at *
go_wp2_with fail
refine (ae MU).mono ?_
rintro e w3 ⟨v3,rfl,hv3,hb3,-⟩
have B3:Hid (But [] w w3):=(ae HI).2.trans' hb3
have MX:=af (je v3 (.slice xa nx xc) _ X w3 hv3 ((ae HV).ah (ae B3)) (by rw[ae HNX];have:=ae L2;omega))
obtain⟨a3,c3,e3,-,-⟩:=hv3
subst e3
clear hb3
rw[ae EV] at MX
generalize (wd 18446744073709551616 (X^(n/2^(i+1))*X^(n/2^(i+1)))).length=m3 at *
go_wp2_with fail
refine (ae MX).mono ?_
rintro e w4 ⟨v4,rfl,hv4,hb4,-⟩
have H4:=af hv4
have B4:Hid (But [] w w4):=(ae B3).trans' hb4
clear hv4 hb4
go_wp2
refine⟨⟨i,by omega,rfl,ae H4,ae B4⟩,?_⟩
simp[intOf]))))
theorem zwl (v:Value) (X n:Nat) (w:World) (hv:Sl .u64 w v (wd 18446744073709551616 X)) (hX:X≤1) (hn:n<2147483648) :
  Calls prog 230 #[v,.int .i64 (n:Int)] w fun e w'=>∃ v',e=.returned v'∧Sl .u64 w' v' (wd 18446744073709551616 (X^n))∧But [] w w':=by(
obtain⟨L,hL⟩:∃ L,L=Lib.bitLen n:=⟨_,rfl⟩
have hb:=zpq n (by omega)
have BL:=af (fun W=>Tryz.bits_Len (n:Int) W (by omega) (by omega))
rw[Int.toNat_natCast,← hL] at BL
rw[← hL] at hb
obtain⟨hb1,hb2⟩:=hb
have hp1:∀ m,(wd 18446744073709551616 (X^m)).length≤1:=fun m=>aj (by omega) _ 1 (by have:=Nat.pow_le_pow_left hX m;rw[Nat.one_pow] at this;omega)
have hp2:(wd 18446744073709551616 X).length≤1:=aj (by omega) _ 1 (by omega)
have hlen:Hid (∀ i,(wd 18446744073709551616 (X^(n/2^i))).length<67108864∧(wd 18446744073709551616 X).length+(wd 18446744073709551616 (X^(n/2^i))).length<67108864):=fun i=>by
 have:=hp1 (n/2^i)
 omega
have hlen2:Hid (∀ i,(wd 18446744073709551616 (X^(n/2^(i+1))*X^(n/2^(i+1)))).length+(wd 18446744073709551616 X).length<67108864):=fun i=>by
 rw[← Nat.pow_add]
 have:=hp1 (n/2^(i+1)+n/2^(i+1))
 omega
have HV:=af hv
have hdiv:n/2^L=0:=Nat.div_eq_of_lt hb1
have hst:Hid ((1:Nat)=X^(n/2^L)):=by show _=_;rw[hdiv,Nat.pow_zero]
clear hv hdiv hb1 hL hp1 hp2
obtain⟨xa,xc,rfl,-,-⟩:=ae HV
generalize hnx:(wd 18446744073709551616 X).length=nx at *
have HNX:=af hnx
clear hnx
go_enter func230,ntmps230
go_wp2_with fail
refine (jh 1 (by omega) _).mono ?_
rintro e w1 ⟨v1,rfl,hv1,hb1,-⟩
have H1:=af hv1
have B1:=af hb1
clear hv1 hb1
go_wp2_with fail
refine (ae BL _).mono ?_
rintro e w2 ⟨rfl,hw⟩
obtain rfl:=hw.symm
clear hw
go_wp2
go_loopw [5,6] (fun o i wr=>∃ k:Nat,k≤L∧i=.int .i64 ((k:Int)-1)∧Hid (Sl .u64 wr o (wd 18446744073709551616 (X^(n/2^k)))∧But [] w wr)) (fun _ i _=>(intOf i+1).toNat)
case atStart=>exact⟨L,Nat.le_refl _,rfl,by rw[← ae hst];exact ae H1,ae B1⟩
case round =>(
obtain⟨k,hk,rfl,HI⟩:=hrel
rename World=>wr
by_cases hk0:k=0
·(
subst hk0
go_wp2
go_ret
have h:=(ae HI).1
rw[Nat.pow_zero,Nat.div_one] at h
exact⟨_,rfl,h,(ae HI).2⟩)
·(
obtain⟨i,rfl⟩:∃ i,k=i+1:=⟨k-1,by omega⟩
rw[show (((i+1:Nat):Int)-1)=(i:Int) from by omega]
have hq:n/2^i<9223372036854775808:=by have:=Nat.div_le_self n (2^i);omega
have E1:bits .and .i64 ((n:Int)/2^i) 1=((n/2^i%2:Nat):Int):=by
 have e:(n:Int)/2^i=((n/2^i:Nat):Int):=by simp
 rw[e,zuk _ hq]
obtain⟨a,c,ho⟩:∃ a c,u5=.slice a (wd 18446744073709551616 (X^(n/2^(i+1)))).length c:=by obtain⟨a,c,e,-,-⟩:=(ae HI).1;exact⟨a,c,e⟩
have MU:=af (je u5 u5 _ _ wr (ae HI).1 (ae HI).1 (by have:=(ae hlen (i+1)).1;omega))
have L2:=af (ae hlen2 i)
subst ho
generalize hm:(wd 18446744073709551616 (X^(n/2^(i+1)))).length=m at *
clear hm
rcases Nat.mod_two_eq_zero_or_one (n/2^i) with hpar | hpar
·(
have e1:(((n/2^i%2:Nat):Int)==1)=false:=by rw[hpar];rfl
have EV:=af (pow_even X n i hpar)
generalize n/2^i%2=b at *
go_wp2_with fail
refine (ae MU).mono ?_
rintro e w3 ⟨v3,rfl,hv3,hb3,-⟩
rw[ae EV] at hv3
have H3:=af hv3
have B3:Hid (But [] w w3):=(ae HI).2.trans' hb3
clear hv3 hb3
go_wp2
refine⟨⟨i,by omega,rfl,ae H3,ae B3⟩,?_⟩
simp[intOf])
·(
have e1:(((n/2^i%2:Nat):Int)==1)=true:=by rw[hpar];rfl
have EV:=af (pow_odd X n i hpar)
generalize n/2^i%2=b at *
go_wp2_with fail
refine (ae MU).mono ?_
rintro e w3 ⟨v3,rfl,hv3,hb3,-⟩
have B3:Hid (But [] w w3):=(ae HI).2.trans' hb3
have MX:=af (je v3 (.slice xa nx xc) _ X w3 hv3 ((ae HV).ah (ae B3)) (by rw[ae HNX];have:=ae L2;omega))
obtain⟨a3,c3,e3,-,-⟩:=hv3
subst e3
clear hb3
rw[ae EV] at MX
generalize (wd 18446744073709551616 (X^(n/2^(i+1))*X^(n/2^(i+1)))).length=m3 at *
go_wp2_with fail
refine (ae MX).mono ?_
rintro e w4 ⟨v4,rfl,hv4,hb4,-⟩
have H4:=af hv4
have B4:Hid (But [] w w4):=(ae B3).trans' hb4
clear hv4 hb4
go_wp2
refine⟨⟨i,by omega,rfl,ae H4,ae B4⟩,?_⟩
simp[intOf]))))
end Go.Proofs.YtpmjeclpkahkmaaGreatDoor
