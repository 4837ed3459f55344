/- The product of two whole numbers of any  -/
import Derived.Deep.RegionWith
import Derived.Test.YtjlfllhedceigaaGreatDoorRN6
namespace Go.Proofs.YtjlfllhedceigaaGreatDoor
set_option linter.unusedVariables false
open Go.Proofs.Tryz
open Go.RowKit
set_option maxHeartbeats 4000000
set_option maxRecDepth 100000
theorem qct {rs:List Nat} {B:Nat} (h:∀ x ∈ rs,x<B) (i:Nat):∀ x ∈ rs.drop i,x<B:=fun x hx=>h x (List.mem_of_mem_drop hx)
theorem Seg.ah {w w':World} {g o:Nat} {rs:List Nat} (hb:But [] w w') (h:Seg w g o rs):Seg w' g o rs:=h.but hb (by simp)
theorem zng (g h cap:Nat) (rs:List Nat) (H:Nat) (vy:Value) (w:World) (hs:Seg w g 0 rs) (hh:h<rs.length) (hc:rs.length-h≤cap) (hy:Sl .u64 w vy (wd 18446744073709551616 H)) (hoff:0<(wd 18446744073709551616 H).length→Off g vy) (hm:∀ x ∈ rs,x < 18446744073709551616) (hfit:vl 18446744073709551616 rs + 18446744073709551616^h*H < 18446744073709551616^rs.length) (hl:rs.length<2147483648) :
   Calls prog 247 #[.slice (some ⟨g,h,none⟩) (rs.length-h) cap,vy] w fun e w'=>∃ (rs2:List Nat) (c:Nat),e=.returned (.int .u64 (c:Nat))∧rs2.length=rs.length∧(∀ x ∈ rs2,x < 18446744073709551616)∧vl 18446744073709551616 rs2=vl 18446744073709551616 rs + 18446744073709551616^h*H∧Seg w' g 0 rs2∧But [g] w w':=by(
 have hld:(rs.drop h).length=rs.length-h:=List.length_drop
 have hsub:=hs.sub h (rs.length-h) (by omega)
 have e0:(rs.drop h).take (rs.length-h)=rs.drop h:=List.take_of_length_le (by rw[hld];exact Nat.le_refl _)
 rw[e0,Nat.zero_add] at hsub
 have hsplit:18446744073709551616^rs.length=18446744073709551616^h * 18446744073709551616^(rs.length-h):=by rw[← Nat.pow_add];congr 1;omega
 have hH:H < 18446744073709551616^(rs.length-h):=by
  have:18446744073709551616^h*H < 18446744073709551616^h * 18446744073709551616^(rs.length-h):=by rw[← hsplit];omega
  exact Nat.lt_of_mul_lt_mul_left this
 have hwl:(wd 18446744073709551616 H).length≤rs.length-h:=aj (by omega) H _ hH
 have hA:=zgz g h cap (rs.drop h) (wd 18446744073709551616 H) vy w hsub (by rw[hld];exact hc) hy hoff (qct hm h) (zo (by omega) H) (by rw[hld];exact hwl) (by rw[hld];omega)
 rw[hld,qh (by omega)] at hA
 refine hA.mono ?_
 rintro e w' ⟨c,ws,rfl,hc1,hlw,hmw,hv,hsg,hpt⟩
 have hlt:(rs.take h).length=h:=by rw[List.length_take];omega
 have hd:vl 18446744073709551616 rs=vl 18446744073709551616 (rs.take h) + 18446744073709551616^h*vl 18446744073709551616 (rs.drop h):=by
  have:=congrArg (vl 18446744073709551616) (List.take_append_drop h rs)
  rw[zq,hlt] at this
  exact this.symm
 have hc0:c=0:=by
  rcases Nat.eq_zero_or_pos c with h0 | h0
  ·exact h0
  ·exfalso
   have h1:18446744073709551616^(rs.length-h)≤c * 18446744073709551616^(rs.length-h):=Nat.le_mul_of_pos_left _ h0
   have h2:18446744073709551616^h * 18446744073709551616^(rs.length-h)≤18446744073709551616^h*(vl 18446744073709551616 (rs.drop h)+H):=Nat.mul_le_mul_left _ (by omega)
   rw[Nat.mul_add,← hsplit] at h2
   omega
 subst hc0
 have hW:=hs.whole hpt hsg hlw (by omega)
 have e1:rs.drop (h+(rs.length-h))=[]:=List.drop_eq_nil_of_le (by omega)
 rw[e1,List.append_nil] at hW
 refine⟨rs.take h++ws,0,rfl,by rw[List.length_append,hlt,hlw];omega,?_,?_,hW,hpt.but⟩
 ·intro x hx
  rcases List.mem_append.1 hx with h1 | h1
  ·exact hm x (List.mem_of_mem_take h1)
  ·exact hmw x h1
 ·rw[zq,hlt,hd]
  have hv':vl 18446744073709551616 ws=vl 18446744073709551616 (rs.drop h)+H:=by omega
  rw[hv',Nat.mul_add];omega)
def zrk (B:Nat) (v va vb:Value) (m n:Nat):Prop:=sw B v∨(v=va∧n=1)∨(v=vb∧m=1)
theorem zxd {w:World} {v va vb:Value} {m n B:Nat} {xs:List Nat} (h:zrk B v va vb m n) (hB:w.heap.size<B) (hn:n≠1) (hb:Sl .u64 w vb xs) (h0:0<xs.length):Off w.heap.size v:=by(
 rcases h with h|⟨_,h⟩|⟨rfl,_⟩
 ·exact fun b off n c e=>by have:=h b off n c e;omega
 ·exact absurd h hn
 ·exact eu hb h0 _ (Nat.le_refl _))
def zvh (k:Nat):Prop:=∀ (va vb:Value) (m n:Nat) (w:World),Sl .u64 w va (wd 18446744073709551616 m)→Sl .u64 w vb (wd 18446744073709551616 n)→(wd 18446744073709551616 m).length+(wd 18446744073709551616 n).length≤k →
 Calls prog 177 #[va,vb] w fun e w'=>∃ v',e=.returned v'∧Sl .u64 w' v' (wd 18446744073709551616 (m*n))∧But [] w w'∧zrk w.heap.size v' va vb m n
theorem zef {X Y a b:Nat} (hx:X < 18446744073709551616^a) (hy:Y < 18446744073709551616^b):X*Y < 18446744073709551616^(a+b):=by(
 rw[Nat.pow_add]
 rcases Nat.eq_zero_or_pos Y with h | h
 ·subst h;rw[Nat.mul_zero];exact Nat.mul_pos (Nat.pow_pos (by omega)) (Nat.pow_pos (by omega))
 ·exact Nat.lt_of_lt_of_le (Nat.mul_lt_mul_of_pos_right hx h) (Nat.mul_le_mul_left _ (Nat.le_of_lt hy)))
theorem zct (X:Nat):X < 18446744073709551616^(wd 18446744073709551616 X).length:=ak (by omega) X _ (Nat.le_refl _)
theorem xg (X Y:Nat):(wd 18446744073709551616 (X*Y)).length≤(wd 18446744073709551616 X).length+(wd 18446744073709551616 Y).length:=aj (by omega) _ _ (zef (zct X) (zct Y))
theorem ztw (xs:List Nat) (n:Nat):vl 18446744073709551616 (xs++(List.replicate n 0).drop xs.length)=vl 18446744073709551616 xs:=by rw[zq,List.drop_replicate,qy];simp
theorem zql (xs:List Nat) (n:Nat) (h:∀ x ∈ xs,x < 18446744073709551616):∀ x ∈ xs++(List.replicate n 0).drop xs.length,x < 18446744073709551616:=fun x hx=>by
 rcases List.mem_append.1 hx with h1 | h1
 ·exact h x h1
 ·have:=List.mem_of_mem_drop h1
  rw[List.mem_replicate] at this
  omega
theorem zqm (xs:List Nat) (n:Nat) (h:xs.length≤n):(xs++(List.replicate n 0).drop xs.length).length=n:=by simp;omega
theorem zti (X Y h:Nat):(X % 18446744073709551616^h)*Y + 18446744073709551616^h*(X / 18446744073709551616^h*Y)=X*Y:=by(
 have:=Nat.mod_add_div X (18446744073709551616^h)
 generalize X % 18446744073709551616^h=a at *
 generalize X / 18446744073709551616^h=b at *
 generalize 18446744073709551616^h=P at *
 subst this
 grind)
theorem zmb (k:Nat) (IH:zvh k) (va vb:Value) (X Y d:Nat) (w:World) (ha:Sl .u64 w va (wd 18446744073709551616 X)) (hb:Sl .u64 w vb (wd 18446744073709551616 Y)) (h0:0<d) (hx:d<(wd 18446744073709551616 X).length) (hy:0<(wd 18446744073709551616 Y).length) (hy1:Y≠1) (hk1:d+(wd 18446744073709551616 Y).length≤k) (hk2:(wd 18446744073709551616 X).length-d+(wd 18446744073709551616 Y).length≤k) (hlx:(wd 18446744073709551616 X).length<268435456) (hly:(wd 18446744073709551616 Y).length<268435456) :
   Calls prog 240 #[va,vb,.int .i64 (d:Int)] w fun e w'=>∃ v',e=.returned v'∧Sl .u64 w' v' (wd 18446744073709551616 (X*Y))∧But [] w w'∧sw w.heap.size v':=by(
 have hmk:=fun wx=>zcm wx (wd 18446744073709551616 X).length (wd 18446744073709551616 Y).length (by omega)
 have L1:=zjh d X
 have L2:=jd d X
 have L3:=xg (X % 18446744073709551616^d) Y
 have L4:=xg (X / 18446744073709551616^d) Y
 have V1:=qh (B:=18446744073709551616) (by omega) (X % 18446744073709551616^d*Y)
 have M1:=zo (B:=18446744073709551616) (by omega) (X % 18446744073709551616^d*Y)
 have HS:=zti X Y d
 have HXY:=zef (zct X) (zct Y)
 have hal:=ha.ah (jr w ((wd 18446744073709551616 X).length+(wd 18446744073709551616 Y).length) 24)
 have hbl:=hb.ah (jr w ((wd 18446744073709551616 X).length+(wd 18446744073709551616 Y).length) 24)
 have sg0:=Seg.made w ((wd 18446744073709551616 X).length+(wd 18446744073709551616 Y).length) 24
 have bm:=jr w ((wd 18446744073709551616 X).length+(wd 18446744073709551616 Y).length) 24
 have low:=zbw va X d (w.alloc (.cells (madeCells #[.int .u64 0] ((wd 18446744073709551616 X).length+(wd 18446744073709551616 Y).length)) 24)) hal (by omega) (by omega)
 have hsz0:w.heap.size<(w.alloc (.cells (madeCells #[.int .u64 0] ((wd 18446744073709551616 X).length+(wd 18446744073709551616 Y).length)) 24)).heap.size:=by simp
 obtain⟨a1,c1,rfl,hc1,-⟩:=id ha
 obtain⟨a2,c2,rfl,hc2,-⟩:=id hb
 have HV1:=af V1
 have HM1:=af M1
 have HHS:=af HS
 have HXYl:=af HXY
 have HAL:=af hal
 have HBL:=af hbl
 have SG0:=af sg0
 have BM:=af bm
 have LOW:=af low
 have HIH:=af IH
 have HSZ:=af hsz0
 have HL:=af (And.intro L1 (And.intro L2 (And.intro L3 L4)))
 have HA:=af ha
 have HB:=af hb
 clear V1 M1 HS HXY hal hbl sg0 bm low IH ha hb L1 L2 L3 L4 hsz0
 have HLX:Hid (∀ n,n=(wd 18446744073709551616 X).length→n<268435456):=fun n e=>by rw[e];exact hlx
 generalize hnx:(wd 18446744073709551616 X).length=nx at *
 generalize hny:(wd 18446744073709551616 Y).length=ny at *
 have NX:=af hnx
 have NY:=af hny
 clear hnx hny
 go_enter func240,ntmps240
 go_wp2_with fail
 refine (ae LOW).mono ?_
 rintro e w1 ⟨v1,rfl,hv1,hw⟩
 obtain rfl:=hw.symm
 clear hw
 have HV:=af hv1
 clear hv1
 go_wp2_with fail
 refine (ae HIH v1 _ _ _ _ (ae HV) (ae HBL) (by have:=ae HL;rw[ae NY];omega)).mono ?_
 rintro e w2 ⟨v2,rfl,hv2,hb2,-⟩
 obtain⟨w3,hcp,HC⟩:=qz (P:=prog) w2 110 111 24 underlying110 dw w.heap.size 0 (nx+ny) (nx+ny) v2 (List.replicate (nx+ny) 0) (wd 18446744073709551616 (X % 18446744073709551616^d*Y)) ((ae SG0).but hb2 (by simp)) (by simp) hv2 (by have:=ae HL;rw[List.length_replicate];omega)
 have R1:=ztw (wd 18446744073709551616 (X % 18446744073709551616^d*Y)) (nx+ny)
 have R2:=zql (wd 18446744073709551616 (X % 18446744073709551616^d*Y)) (nx+ny) (ae HM1)
 have R3:=zqm (wd 18446744073709551616 (X % 18446744073709551616^d*Y)) (nx+ny) (by have:=ae HL;omega)
 rw[ae HV1] at R1
 have hB3:But [] w w3:=((ae BM).trans' hb2).trans (ae HC).2.but (fun x hx=>by simp at hx;subst hx;exact .inr (Nat.le_refl _))
 have hbx:But [w.heap.size] (w.alloc (.cells (madeCells #[.int .u64 0] (nx+ny)) 24)) w3:=(But.of_nil hb2).trans (ae HC).2.but (fun x hx=>.inl hx)
 have hA3:Sl .u64 w3 (.slice a1 nx c1) (wd 18446744073709551616 X):=(ae HA).ah hB3
 have hY3:Sl .u64 w3 (.slice a2 ny c2) (wd 18446744073709551616 Y):=(ae HB).ah hB3
 have hsg3:=(ae HC).1
 have hgs:w.heap.size<w3.heap.size:=Nat.lt_of_lt_of_le (ae HSZ) (Nat.le_trans hb2.size (ae HC).2.but.size)
 generalize wd 18446744073709551616 (X % 18446744073709551616^d*Y)++(List.replicate (nx+ny) 0).drop (wd 18446744073709551616 (X % 18446744073709551616^d*Y)).length=r1 at *
 have hA:=af (fun (v4:Value) (W:World) (h4:Sl .u64 W v4 (wd 18446744073709551616 (X / 18446744073709551616^d*Y))) (hO:Off w.heap.size v4) (hS:Seg W w.heap.size 0 r1)=>zng w.heap.size d (r1.length-d) r1 (X / 18446744073709551616^d*Y) v4 W hS (by omega) (Nat.le_refl _) h4 (fun _=>hO) R2 (by rw[R1,ae HHS,R3];exact ae HXYl) (by omega))
 rw[R3] at hA
 have HB3:=af hB3
 have HA3:=af hA3
 have HY3:=af hY3
 have HSG3:=af hsg3
 have HR:=af (And.intro R1 (And.intro R2 R3))
 have HGS:=af hgs
 clear R1 R2 R3 hB3 hbx hA3 hY3 hsg3 hb2 hv2 HC HV hgs
 have i1:(0:Int)≤(d:Int):=by omega
 have i2:(d:Int)<((nx+ny:Nat):Int):=by omega
 go_wp2
 go_region_with (first
  | (go_at_call 287;refine (fe (.slice a1 nx c1) X d _ (by exact ae HA3) (by rw[ae NX];omega) (by omega)).mono ?_;rintro e w4 ⟨v4,rfl,hv4,rfl⟩)
  | (go_at_call 177;refine (ae HIH v4 (.slice a2 ny c2) _ _ _ (by exact hv4) (by exact ae HY3) (by have:=ae HL;rw[ae NY];omega)).mono ?_;rintro e w5 ⟨v5,rfl,hv5,hb5,hf5⟩)
  | (go_at_call 247;refine (ae hA v5 _ (by exact hv5) (by exact zxd hf5 (by exact ae HGS) hy1 (ae HB) (by rw[ae NY];exact hy)) (by exact Seg.ah hb5 (by exact ae HSG3))).mono ?_;rintro e w6 ⟨rs2,c,rfl,hl2,hm2,hv6,hs6,hb6⟩))
 all_goals(
 have hB5:But [] w w5:=(ae HB3).trans' ((But.refl _ _).drew.trans' hb5)
 have HB6:Hid (But [] w w6):=hB5.trans hb6 (fun x hx=>by simp at hx;subst hx;exact .inr (Nat.le_refl _))
 have hsl:=hs6.sl (nx+ny) (by rw[hl2];exact Nat.le_refl _)
 rw[hl2] at hsl
 rw[(ae HR).1,ae HHS] at hv6
 have HSL:=af hsl
 have HM2:=af hm2
 have HV6:=af hv6
 have HL2:rs2.length<2147483648:=by rw[hl2];omega
 clear hB5 hb5 hb6 hsl hm2 hv6 hv4 hv5 hf5 hs6 hl2 hA
 go_wp2_with fail
 refine (qa _ rs2 _ (ae HSL) (ae HM2) HL2).mono ?_
 rintro e w7 ⟨v7,rfl,hv7,hw,hsb⟩
 obtain rfl:=hw.symm
 clear hw
 rw[ae HV6] at hv7
 have HV7:=af hv7
 have HSB:=af hsb
 clear hv7 hsb
 go_wp2
 go_ret
 exact⟨v7,rfl,ae HV7,ae HB6,dx (ae HSB) (Nat.le_refl _)⟩))
end Go.Proofs.YtjlfllhedceigaaGreatDoor
