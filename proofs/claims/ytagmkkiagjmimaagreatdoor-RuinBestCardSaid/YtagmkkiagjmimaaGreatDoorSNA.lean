/- A word's number, and what a number tells -/
import Derived.Deep.RegionWith
import Derived.Test.YtagmkkiagjmimaaGreatDoorSN6
namespace Go.Proofs.YtagmkkiagjmimaaGreatDoor
set_option linter.unusedVariables false
open Go.Proofs.Tryz
open Go.RowKit
set_option maxHeartbeats 4000000
set_option maxRecDepth 100000
theorem zcu (u:Nat) (h0:0<u) (hu:u < 18446744073709551616):wd 18446744073709551616 u=[u]:=by rw[zau (by omega) h0,Nat.mod_eq_of_lt hu,Nat.div_eq_of_lt hu,zh]
theorem jc (u:Nat) (hu:u < 18446744073709551616) (w:World) :
   Calls prog 139 #[.int .u64 u] w fun e w'=>∃ v,e=.returned v∧Sl .u64 w' v (wd 18446744073709551616 u)∧But [] w w'∧Own w.heap.size w' v:=by(
 by_cases h0:u=0
 ·(
 subst h0
 go_enter func139,ntmps139
 go_wp2
 go_ret
 exact⟨_,rfl,by rw[zh];exact Sl.nil _ _,But.refl _ _,qfw _ _ _⟩)
 ·(
 have n0:((u:Int)==0)=false:=by simp;exact h0
 go_enter func139,ntmps139
 go_wp2
 go_ret
 refine⟨_,rfl,?_,(But.refl _ _).alloc _,?_⟩
 ·(
 rw[zcu u (by omega) hu]
 exact Sl.mk (xs:=[u]) w.heap.size 0 1 (by simp) (fun i hi=>by
  have:i=0:=by simpa using hi
  subst this;simp) (fun _ i v hv=>by
  rw[World.cell?_alloc_new] at hv
  rcases i with _ | i
  ·exact⟨u,by simpa using hv.symm⟩
  ·simp at hv))
 ·intro b off n c e
  simp at e
  obtain⟨⟨rfl,rfl,-⟩,-,-⟩:=e
  exact⟨Nat.le_refl _,fun i _=>by simp⟩))
theorem zem {w:World} {v:Value} {u:Nat} (h:Sl .u64 w v (wd 18446744073709551616 u)) (hu:u < 18446744073709551616):(u=0∧∃ a c,v=.slice a 0 c)∨(0<u∧∃ b off c,v=.slice (some ⟨b,off,none⟩) 1 c∧w.cell? ⟨b,off,none⟩=some (.int .u64 u)):=by(
 rcases Nat.eq_zero_or_pos u with h0 | h0
 ·subst h0
  rw[zh] at h
  obtain⟨a,c,e,-⟩:=h
  exact .inl ⟨rfl,a,c,e⟩
 ·rw[zcu u h0 hu] at h
  rcases h.open with ⟨e,-⟩|⟨-,b,off,c,e,-,-,hc⟩
  ·simp at e
  ·exact .inr ⟨h0,b,off,c,e,hc 0 (by simp)⟩)
theorem zcv (u:Nat) (hu:18446744073709551616≤u):2≤(wd 18446744073709551616 u).length:=by(
 rcases Nat.lt_or_ge (wd 18446744073709551616 u).length 2 with h | h
 ·have:=ak (B:=18446744073709551616) (by omega) u 1 (by omega)
  omega
 ·exact h)
theorem uy (v:Value) (u:Nat) (hu:u < 18446744073709551616) (w:World) (hv:Sl .u64 w v (wd 18446744073709551616 u)) :
   Calls prog 141 #[v] w fun e w'=>e=.returned (.tuple #[.int .u64 u,.bool true])∧w'=w:=by(
 rcases zem hv hu with ⟨rfl,a,c,rfl⟩|⟨h0,b,off,c,rfl,hc⟩
 ·go_enter func141,ntmps141
  go_wp2
  go_ret2
  exact⟨rfl,rfl⟩
 ·go_enter func141,ntmps141
  go_wp2
  go_ret2
  exact⟨rfl,rfl⟩)
theorem oq (v:Value) (u:Nat) (hu:18446744073709551616≤u) (w:World) (hv:Sl .u64 w v (wd 18446744073709551616 u)) (hl:(wd 18446744073709551616 u).length<2147483648) :
   Calls prog 141 #[v] w fun e w'=>e=.returned (.tuple #[.int .u64 0,.bool false])∧w'=w:=by(
 have h2:=zcv u hu
 obtain⟨a,c,rfl,-,-⟩:=hv
 generalize (wd 18446744073709551616 u).length=l at *
 have n0:((l:Int)==0)=false:=beq_eq_false_iff_ne.2 (by omega)
 have n1:((l:Int)==1)=false:=beq_eq_false_iff_ne.2 (by omega)
 clear hu
 go_enter func141,ntmps141
 go_wp2
 go_ret2
 exact⟨rfl,rfl⟩)
theorem dm (v:Value) (u:Nat) (w:World) (hv:Sl .u64 w v (wd 18446744073709551616 u)) (hl:(wd 18446744073709551616 u).length<2147483648) (r:Bool) (hr:Hid (r=decide (u=1))) :
   Calls prog 64 #[v] w fun e w'=>e=.returned (.bool r)∧w'=w:=by(
 rcases Nat.lt_or_ge u 18446744073709551616 with hu | hu
 ·(
 rcases zem hv hu with ⟨rfl,a,c,rfl⟩|⟨h0,b,off,c,rfl,hc⟩
 ·(
 have e:Hid (r=false):=by show _=_;rw[ae hr];rfl
 clear hr
 go_enter func64,ntmps64
 go_wp2
 go_ret
 exact⟨by rw[ae e];rfl,rfl⟩)
 ·(
 have e:((u:Int)==1)=r:=by rw[ae hr,Bool.eq_iff_iff];simp;omega
 clear hr
 go_enter func64,ntmps64
 go_wp2
 go_ret
 exact⟨rfl,rfl⟩))
 ·(
 have e:Hid (r=false):=by show _=_;rw[ae hr];simp;omega
 have h2:=zcv u hu
 clear hr hu
 obtain⟨a,c,rfl,-,-⟩:=hv
 generalize (wd 18446744073709551616 u).length=l at *
 have n1:((l:Int)==1)=false:=beq_eq_false_iff_ne.2 (by omega)
 go_enter func64,ntmps64
 go_wp2
 go_ret
 exact⟨by rw[ae e];rfl,rfl⟩))
theorem qcr {rs:List Nat} {B:Nat} (h:∀ x ∈ rs,x<B) (i:Nat):∀ x ∈ rs.drop i,x<B:=fun x hx=>h x (List.mem_of_mem_drop hx)
theorem Seg.ah {w w':World} {g o:Nat} {rs:List Nat} (hb:But [] w w') (h:Seg w g o rs):Seg w' g o rs:=h.but hb (by simp)
theorem znu (g h cap:Nat) (rs:List Nat) (H:Nat) (vy:Value) (w:World) (hs:Seg w g 0 rs) (hh:h<rs.length) (hc:rs.length-h≤cap) (hy:Sl .u64 w vy (wd 18446744073709551616 H)) (hoff:0<(wd 18446744073709551616 H).length→Off g vy) (hm:∀ x ∈ rs,x < 18446744073709551616) (hfit:vl 18446744073709551616 rs + 18446744073709551616^h*H < 18446744073709551616^rs.length) (hl:rs.length<2147483648) :
   Calls prog 216 #[.slice (some ⟨g,h,none⟩) (rs.length-h) cap,vy] w fun e w'=>∃ (rs2:List Nat) (c:Nat),e=.returned (.int .u64 (c:Nat))∧rs2.length=rs.length∧(∀ x ∈ rs2,x < 18446744073709551616)∧vl 18446744073709551616 rs2=vl 18446744073709551616 rs + 18446744073709551616^h*H∧Seg w' g 0 rs2∧But [g] w w':=by(
 have hld:(rs.drop h).length=rs.length-h:=List.length_drop
 have hsub:=hs.sub h (rs.length-h) (by omega)
 have e0:(rs.drop h).take (rs.length-h)=rs.drop h:=List.take_of_length_le (by rw[hld];exact Nat.le_refl _)
 rw[e0,Nat.zero_add] at hsub
 have hsplit:18446744073709551616^rs.length=18446744073709551616^h * 18446744073709551616^(rs.length-h):=by rw[← Nat.pow_add];congr 1;omega
 have hH:H < 18446744073709551616^(rs.length-h):=by
  have:18446744073709551616^h*H < 18446744073709551616^h * 18446744073709551616^(rs.length-h):=by rw[← hsplit];omega
  exact Nat.lt_of_mul_lt_mul_left this
 have hwl:(wd 18446744073709551616 H).length≤rs.length-h:=aj (by omega) H _ hH
 have hA:=zhx g h cap (rs.drop h) (wd 18446744073709551616 H) vy w hsub (by rw[hld];exact hc) hy hoff (qcr hm h) (zo (by omega) H) (by rw[hld];exact hwl) (by rw[hld];omega)
 rw[hld,qg (by omega)] at hA
 refine hA.mono ?_
 rintro e w' ⟨c,ws,rfl,hc1,hlw,hmw,hv,hsg,hpt⟩
 have hlt:(rs.take h).length=h:=by rw[List.length_take];omega
 have hd:vl 18446744073709551616 rs=vl 18446744073709551616 (rs.take h) + 18446744073709551616^h*vl 18446744073709551616 (rs.drop h):=by
  have:=congrArg (vl 18446744073709551616) (List.take_append_drop h rs)
  rw[zt,hlt] at this
  exact this.symm
 have hc0:c=0:=by
  rcases Nat.eq_zero_or_pos c with h0 | h0
  ·exact h0
  ·exfalso
   have h1:18446744073709551616^(rs.length-h)≤c * 18446744073709551616^(rs.length-h):=Nat.le_mul_of_pos_left _ h0
   have h2:18446744073709551616^h * 18446744073709551616^(rs.length-h)≤18446744073709551616^h*(vl 18446744073709551616 (rs.drop h)+H):=Nat.mul_le_mul_left _ (by omega)
   rw[Nat.mul_add,← hsplit] at h2
   omega
 subst hc0
 have hW:=hs.whole hpt hsg hlw (by omega)
 have e1:rs.drop (h+(rs.length-h))=[]:=List.drop_eq_nil_of_le (by omega)
 rw[e1,List.append_nil] at hW
 refine⟨rs.take h++ws,0,rfl,by rw[List.length_append,hlt,hlw];omega,?_,?_,hW,hpt.but⟩
 ·intro x hx
  rcases List.mem_append.1 hx with h1 | h1
  ·exact hm x (List.mem_of_mem_take h1)
  ·exact hmw x h1
 ·rw[zt,hlt,hd]
  have hv':vl 18446744073709551616 ws=vl 18446744073709551616 (rs.drop h)+H:=by omega
  rw[hv',Nat.mul_add];omega)
def zst (B:Nat) (v va vb:Value) (m n:Nat):Prop:=mi B v∨(v=va∧n=1)∨(v=vb∧m=1)
theorem zyt {w:World} {v va vb:Value} {m n B:Nat} {xs:List Nat} (h:zst B v va vb m n) (hB:w.heap.size<B) (hn:n≠1) (hb:Sl .u64 w vb xs) (h0:0<xs.length):Off w.heap.size v:=by(
 rcases h with h|⟨_,h⟩|⟨rfl,_⟩
 ·exact fun b off n c e=>by have:=h b off n c e;omega
 ·exact absurd h hn
 ·exact l9 hb h0 _ (Nat.le_refl _))
def zwx (k:Nat):Prop:=∀ (va vb:Value) (m n:Nat) (w:World),Sl .u64 w va (wd 18446744073709551616 m)→Sl .u64 w vb (wd 18446744073709551616 n)→(wd 18446744073709551616 m).length+(wd 18446744073709551616 n).length≤k →
 Calls prog 171 #[va,vb] w fun e w'=>∃ v',e=.returned v'∧Sl .u64 w' v' (wd 18446744073709551616 (m*n))∧But [] w w'∧zst w.heap.size v' va vb m n
theorem zfj {X Y a b:Nat} (hx:X < 18446744073709551616^a) (hy:Y < 18446744073709551616^b):X*Y < 18446744073709551616^(a+b):=by(
 rw[Nat.pow_add]
 rcases Nat.eq_zero_or_pos Y with h | h
 ·subst h;rw[Nat.mul_zero];exact Nat.mul_pos (Nat.pow_pos (by omega)) (Nat.pow_pos (by omega))
 ·exact Nat.lt_of_lt_of_le (Nat.mul_lt_mul_of_pos_right hx h) (Nat.mul_le_mul_left _ (Nat.le_of_lt hy)))
theorem zdp (X:Nat):X < 18446744073709551616^(wd 18446744073709551616 X).length:=ak (by omega) X _ (Nat.le_refl _)
theorem qi (X Y:Nat):(wd 18446744073709551616 (X*Y)).length≤(wd 18446744073709551616 X).length+(wd 18446744073709551616 Y).length:=aj (by omega) _ _ (zfj (zdp X) (zdp Y))
theorem zvk (xs:List Nat) (n:Nat):vl 18446744073709551616 (xs++(List.replicate n 0).drop xs.length)=vl 18446744073709551616 xs:=by rw[zt,List.drop_replicate,qp];simp
theorem zrn (xs:List Nat) (n:Nat) (h:∀ x ∈ xs,x < 18446744073709551616):∀ x ∈ xs++(List.replicate n 0).drop xs.length,x < 18446744073709551616:=fun x hx=>by
 rcases List.mem_append.1 hx with h1 | h1
 ·exact h x h1
 ·have:=List.mem_of_mem_drop h1
  rw[List.mem_replicate] at this
  omega
theorem zrp (xs:List Nat) (n:Nat) (h:xs.length≤n):(xs++(List.replicate n 0).drop xs.length).length=n:=by simp;omega
theorem zuj (X Y h:Nat):(X % 18446744073709551616^h)*Y + 18446744073709551616^h*(X / 18446744073709551616^h*Y)=X*Y:=by(
 have:=Nat.mod_add_div X (18446744073709551616^h)
 generalize X % 18446744073709551616^h=a at *
 generalize X / 18446744073709551616^h=b at *
 generalize 18446744073709551616^h=P at *
 subst this
 grind)
theorem zmf (k:Nat) (IH:zwx k) (va vb:Value) (X Y d:Nat) (w:World) (ha:Sl .u64 w va (wd 18446744073709551616 X)) (hb:Sl .u64 w vb (wd 18446744073709551616 Y)) (h0:0<d) (hx:d<(wd 18446744073709551616 X).length) (hy:0<(wd 18446744073709551616 Y).length) (hy1:Y≠1) (hk1:d+(wd 18446744073709551616 Y).length≤k) (hk2:(wd 18446744073709551616 X).length-d+(wd 18446744073709551616 Y).length≤k) (hlx:(wd 18446744073709551616 X).length<268435456) (hly:(wd 18446744073709551616 Y).length<268435456) :
   Calls prog 210 #[va,vb,.int .i64 (d:Int)] w fun e w'=>∃ v',e=.returned v'∧Sl .u64 w' v' (wd 18446744073709551616 (X*Y))∧But [] w w'∧mi w.heap.size v':=by(
 have hmk:=fun wx=>zdw wx (wd 18446744073709551616 X).length (wd 18446744073709551616 Y).length (by omega)
 have L1:=zjs d X
 have L2:=j3 d X
 have L3:=qi (X % 18446744073709551616^d) Y
 have L4:=qi (X / 18446744073709551616^d) Y
 have V1:=qg (B:=18446744073709551616) (by omega) (X % 18446744073709551616^d*Y)
 have M1:=zo (B:=18446744073709551616) (by omega) (X % 18446744073709551616^d*Y)
 have HS:=zuj X Y d
 have HXY:=zfj (zdp X) (zdp Y)
 have hal:=ha.ah (xh w ((wd 18446744073709551616 X).length+(wd 18446744073709551616 Y).length) 24)
 have hbl:=hb.ah (xh w ((wd 18446744073709551616 X).length+(wd 18446744073709551616 Y).length) 24)
 have sg0:=Seg.made w ((wd 18446744073709551616 X).length+(wd 18446744073709551616 Y).length) 24
 have bm:=xh w ((wd 18446744073709551616 X).length+(wd 18446744073709551616 Y).length) 24
 have low:=zde va X d (w.alloc (.cells (madeCells #[.int .u64 0] ((wd 18446744073709551616 X).length+(wd 18446744073709551616 Y).length)) 24)) hal (by omega) (by omega)
 have hsz0:w.heap.size<(w.alloc (.cells (madeCells #[.int .u64 0] ((wd 18446744073709551616 X).length+(wd 18446744073709551616 Y).length)) 24)).heap.size:=by simp
 obtain⟨a1,c1,rfl,hc1,-⟩:=id ha
 obtain⟨a2,c2,rfl,hc2,-⟩:=id hb
 have HV1:=af V1
 have HM1:=af M1
 have HHS:=af HS
 have HXYl:=af HXY
 have HAL:=af hal
 have HBL:=af hbl
 have SG0:=af sg0
 have BM:=af bm
 have LOW:=af low
 have HIH:=af IH
 have HSZ:=af hsz0
 have HL:=af (And.intro L1 (And.intro L2 (And.intro L3 L4)))
 have HA:=af ha
 have HB:=af hb
 clear V1 M1 HS HXY hal hbl sg0 bm low IH ha hb L1 L2 L3 L4 hsz0
 have HLX:Hid (∀ n,n=(wd 18446744073709551616 X).length→n<268435456):=fun n e=>by rw[e];exact hlx
 generalize hnx:(wd 18446744073709551616 X).length=nx at *
 generalize hny:(wd 18446744073709551616 Y).length=ny at *
 have NX:=af hnx
 have NY:=af hny
 clear hnx hny
 go_enter func210,ntmps210
 go_wp2_with fail
 refine (ae LOW).mono ?_
 rintro e w1 ⟨v1,rfl,hv1,hw⟩
 obtain rfl:=hw.symm
 clear hw
 have HV:=af hv1
 clear hv1
 go_wp2_with fail
 refine (ae HIH v1 _ _ _ _ (ae HV) (ae HBL) (by have:=ae HL;rw[ae NY];omega)).mono ?_
 rintro e w2 ⟨v2,rfl,hv2,hb2,-⟩
 obtain⟨w3,hcp,HC⟩:=je (P:=prog) w2 102 103 24 underlying102 fw w.heap.size 0 (nx+ny) (nx+ny) v2 (List.replicate (nx+ny) 0) (wd 18446744073709551616 (X % 18446744073709551616^d*Y)) ((ae SG0).but hb2 (by simp)) (by simp) hv2 (by have:=ae HL;rw[List.length_replicate];omega)
 have R1:=zvk (wd 18446744073709551616 (X % 18446744073709551616^d*Y)) (nx+ny)
 have R2:=zrn (wd 18446744073709551616 (X % 18446744073709551616^d*Y)) (nx+ny) (ae HM1)
 have R3:=zrp (wd 18446744073709551616 (X % 18446744073709551616^d*Y)) (nx+ny) (by have:=ae HL;omega)
 rw[ae HV1] at R1
 have hB3:But [] w w3:=((ae BM).trans' hb2).trans (ae HC).2.but (fun x hx=>by simp at hx;subst hx;exact .inr (Nat.le_refl _))
 have hbx:But [w.heap.size] (w.alloc (.cells (madeCells #[.int .u64 0] (nx+ny)) 24)) w3:=(But.of_nil hb2).trans (ae HC).2.but (fun x hx=>.inl hx)
 have hA3:Sl .u64 w3 (.slice a1 nx c1) (wd 18446744073709551616 X):=(ae HA).ah hB3
 have hY3:Sl .u64 w3 (.slice a2 ny c2) (wd 18446744073709551616 Y):=(ae HB).ah hB3
 have hsg3:=(ae HC).1
 have hgs:w.heap.size<w3.heap.size:=Nat.lt_of_lt_of_le (ae HSZ) (Nat.le_trans hb2.size (ae HC).2.but.size)
 generalize wd 18446744073709551616 (X % 18446744073709551616^d*Y)++(List.replicate (nx+ny) 0).drop (wd 18446744073709551616 (X % 18446744073709551616^d*Y)).length=r1 at *
 have hA:=af (fun (v4:Value) (W:World) (h4:Sl .u64 W v4 (wd 18446744073709551616 (X / 18446744073709551616^d*Y))) (hO:Off w.heap.size v4) (hS:Seg W w.heap.size 0 r1)=>znu w.heap.size d (r1.length-d) r1 (X / 18446744073709551616^d*Y) v4 W hS (by omega) (Nat.le_refl _) h4 (fun _=>hO) R2 (by rw[R1,ae HHS,R3];exact ae HXYl) (by omega))
 rw[R3] at hA
 have HB3:=af hB3
 have HA3:=af hA3
 have HY3:=af hY3
 have HSG3:=af hsg3
 have HR:=af (And.intro R1 (And.intro R2 R3))
 have HGS:=af hgs
 clear R1 R2 R3 hB3 hbx hA3 hY3 hsg3 hb2 hv2 HC HV hgs
 have i1:(0:Int)≤(d:Int):=by omega
 have i2:(d:Int)<((nx+ny:Nat):Int):=by omega
 go_wp2
 go_region_with (first
  | (go_at_call 244;refine (mg (.slice a1 nx c1) X d _ (by exact ae HA3) (by rw[ae NX];omega) (by omega)).mono ?_;rintro e w4 ⟨v4,rfl,hv4,rfl⟩)
  | (go_at_call 171;refine (ae HIH v4 (.slice a2 ny c2) _ _ _ (by exact hv4) (by exact ae HY3) (by have:=ae HL;rw[ae NY];omega)).mono ?_;rintro e w5 ⟨v5,rfl,hv5,hb5,hf5⟩)
  | (go_at_call 216;refine (ae hA v5 _ (by exact hv5) (by exact zyt hf5 (by exact ae HGS) hy1 (ae HB) (by rw[ae NY];exact hy)) (by exact Seg.ah hb5 (by exact ae HSG3))).mono ?_;rintro e w6 ⟨rs2,c,rfl,hl2,hm2,hv6,hs6,hb6⟩))
 all_goals(
 have hB5:But [] w w5:=(ae HB3).trans' ((But.refl _ _).drew.trans' hb5)
 have HB6:Hid (But [] w w6):=hB5.trans hb6 (fun x hx=>by simp at hx;subst hx;exact .inr (Nat.le_refl _))
 have hsl:=hs6.sl (nx+ny) (by rw[hl2];exact Nat.le_refl _)
 rw[hl2] at hsl
 rw[(ae HR).1,ae HHS] at hv6
 have HSL:=af hsl
 have HM2:=af hm2
 have HV6:=af hv6
 have HL2:rs2.length<2147483648:=by rw[hl2];omega
 clear hB5 hb5 hb6 hsl hm2 hv6 hv4 hv5 hf5 hs6 hl2 hA
 go_wp2_with fail
 refine (zz _ rs2 _ (ae HSL) (ae HM2) HL2).mono ?_
 rintro e w7 ⟨v7,rfl,hv7,hw,hsb⟩
 obtain rfl:=hw.symm
 clear hw
 rw[ae HV6] at hv7
 have HV7:=af hv7
 have HSB:=af hsb
 clear hv7 hsb
 go_wp2
 go_ret
 exact⟨v7,rfl,ae HV7,ae HB6,yh (ae HSB) (Nat.le_refl _)⟩))
theorem qcy (X Y P:Nat) (x0 x1 y0 y1:Nat) (hX:X=x0+P*x1) (hY:Y=y0+P*y1):x0*y0+P*((x0+x1)*(y0+y1)-x0*y0-x1*y1)+P*P*(x1*y1)=X*Y:=by(
 have e:(x0+x1)*(y0+y1)-x0*y0-x1*y1=x0*y1+x1*y0:=by
  have:(x0+x1)*(y0+y1)=x0*y0+x1*y1+(x0*y1+x1*y0):=by grind
  omega
 rw[e,hX,hY]
 grind)
theorem qda (x0 x1 y0 y1:Nat):x0*y0≤(x0+x1)*(y0+y1):=Nat.mul_le_mul (by omega) (by omega)
theorem qcz (x0 x1 y0 y1:Nat):x1*y1≤(x0+x1)*(y0+y1)-x0*y0:=by
 have:(x0+x1)*(y0+y1)=x0*y0+x1*y1+(x0*y1+x1*y0):=by grind
 omega
theorem rf (X Y k:Nat) (hx:X < 18446744073709551616^k) (hy:Y < 18446744073709551616^k):(wd 18446744073709551616 (X+Y)).length≤k+1:=aj (by omega) _ _ (by rw[Nat.pow_succ];omega)
theorem qil (rs xs:List Nat) (o:Nat) (hl:o+xs.length≤rs.length) (hz:∀ j,o≤j→rs[j]?.getD 0=0):vl 18446744073709551616 (rs.take o++(xs++((rs.drop o).take (rs.length-o)).drop xs.length)++rs.drop (o+(rs.length-o)))=vl 18446744073709551616 rs + 18446744073709551616^o*vl 18446744073709551616 xs:=by(
 have lt:(rs.take o).length=o:=by rw[List.length_take];omega
 have e1:rs.drop (o+(rs.length-o))=[]:=List.drop_eq_nil_of_le (by omega)
 have z1:vl 18446744073709551616 (rs.drop o)=0:=zav _ _ (fun j hj=>by rw[List.getElem?_drop];exact hz _ (by omega))
 have z2:vl 18446744073709551616 (((rs.drop o).take (rs.length-o)).drop xs.length)=0:=zav _ _ (fun j hj=>by
  rw[List.getElem?_drop,List.getElem?_take]
  split
  ·rw[List.getElem?_drop];exact hz _ (by omega)
  ·rfl)
 have h1:=congrArg (vl 18446744073709551616) (List.take_append_drop o rs)
 rw[zt,z1,Nat.mul_zero,Nat.add_zero] at h1
 rw[e1,List.append_nil,zt,lt,zt,z2,Nat.mul_zero,Nat.add_zero,h1])
theorem zwy (xs:List Nat) (n j:Nat) (h:xs.length≤j):(xs++(List.replicate n 0).drop xs.length)[j]?.getD 0=0:=by
 rw[List.getElem?_append_right h,List.getElem?_drop,List.getElem?_replicate]
 split <;> rfl
theorem zmk (k:Nat) (IH:zwx k) (va vb:Value) (X Y d:Nat) (w:World) (ha:Sl .u64 w va (wd 18446744073709551616 X)) (hb:Sl .u64 w vb (wd 18446744073709551616 Y)) (hd:2<d) (hx:d<(wd 18446744073709551616 X).length) (hxx:(wd 18446744073709551616 X).length≤2*d) (hy:d<(wd 18446744073709551616 Y).length) (hyy:(wd 18446744073709551616 Y).length≤(wd 18446744073709551616 X).length) (hk1:2*d+2≤k) (hlx:(wd 18446744073709551616 X).length<134217728) :
   Calls prog 211 #[va,vb,.int .i64 (d:Int)] w fun e w'=>∃ v',e=.returned v'∧Sl .u64 w' v' (wd 18446744073709551616 (X*Y))∧But [] w w'∧mi w.heap.size v':=by(
 obtain⟨x0,ex0⟩:∃ x0,x0=X % 18446744073709551616^d:=⟨_,rfl⟩
 obtain⟨x1,ex1⟩:∃ x1,x1=X / 18446744073709551616^d:=⟨_,rfl⟩
 obtain⟨y0,ey0⟩:∃ y0,y0=Y % 18446744073709551616^d:=⟨_,rfl⟩
 obtain⟨y1,ey1⟩:∃ y1,y1=Y / 18446744073709551616^d:=⟨_,rfl⟩
 have hp:0 < 18446744073709551616^d:=Nat.pow_pos (by omega)
 have bx0:x0 < 18446744073709551616^d:=by rw[ex0];exact Nat.mod_lt _ hp
 have by0:y0 < 18446744073709551616^d:=by rw[ey0];exact Nat.mod_lt _ hp
 have lx1:(wd 18446744073709551616 x1).length=(wd 18446744073709551616 X).length-d:=by rw[ex1];exact j3 d X
 have ly1:(wd 18446744073709551616 y1).length=(wd 18446744073709551616 Y).length-d:=by rw[ey1];exact j3 d Y
 have bx1:x1 < 18446744073709551616^d:=ak (by omega) _ _ (by omega)
 have by1:y1 < 18446744073709551616^d:=ak (by omega) _ _ (by omega)
 have lx0:(wd 18446744073709551616 x0).length≤d:=aj (by omega) _ _ bx0
 have ly0:(wd 18446744073709551616 y0).length≤d:=aj (by omega) _ _ by0
 have lsx:=rf x0 x1 d bx0 bx1
 have lsy:=rf y0 y1 d by0 by1
 have lp:=qi (x0+x1) (y0+y1)
 have ll:=qi x0 y0
 have lh:=qi x1 y1
 have hsum:=qcy X Y (18446744073709551616^d) x0 x1 y0 y1 (by rw[ex0,ex1];exact (Nat.mod_add_div _ _).symm) (by rw[ey0,ey1];exact (Nat.mod_add_div _ _).symm)
 have hle1:=qda x0 x1 y0 y1
 have hle2:=qcz x0 x1 y0 y1
 have hXY:=zfj (zdp X) (zdp Y)
 have lc1:(wd 18446744073709551616 ((x0+x1)*(y0+y1)-x0*y0)).length≤(wd 18446744073709551616 ((x0+x1)*(y0+y1))).length:=au (Nat.sub_le _ _)
 obtain⟨a1,c1,rfl,hc1,-⟩:=id ha
 obtain⟨a2,c2,rfl,hc2,-⟩:=id hb
 have low1:=fun W (h:Sl .u64 W _ _)=>zde (.slice a1 (wd 18446744073709551616 X).length c1) X d W h (by omega) (by omega)
 have low2:=fun W (h:Sl .u64 W _ _)=>zde (.slice a2 (wd 18446744073709551616 Y).length c2) Y d W h (by omega) (by omega)
 have hi1:=fun W (h:Sl .u64 W _ _)=>mg (.slice a1 (wd 18446744073709551616 X).length c1) X d W h (by omega) (by omega)
 have hi2:=fun W (h:Sl .u64 W _ _)=>mg (.slice a2 (wd 18446744073709551616 Y).length c2) Y d W h (by omega) (by omega)
 rw[← ex0] at low1
 rw[← ey0] at low2
 rw[← ex1] at hi1
 rw[← ey1] at hi2
 have LOW1:=af low1
 have LOW2:=af low2
 have HI1:=af hi1
 have HI2:=af hi2
 have HA:=af ha
 have HB:=af hb
 have HIH:=af IH
 have HSUM:=af hsum
 have HLE1:=af hle1
 have HLE2:=af hle2
 have HXY:=af hXY
 have HLEN:=af (And.intro lx1 (And.intro ly1 (And.intro lx0 (And.intro ly0 (And.intro lsx (And.intro lsy (And.intro lp (And.intro ll (And.intro lh lc1)))))))))
 have HBND:=af (And.intro bx0 (And.intro by0 (And.intro bx1 by1)))
 have hmk:=fun wx=>zdw wx (wd 18446744073709551616 X).length (wd 18446744073709551616 Y).length (by omega)
 clear low1 low2 hi1 hi2 ha hb IH hsum hle1 hle2 hXY lx1 ly1 lx0 ly0 lsx lsy lp ll lh lc1 bx0 bx1 by0 by1 hp ex0 ex1 ey0 ey1
 generalize hnx:(wd 18446744073709551616 X).length=nx at *
 generalize hny:(wd 18446744073709551616 Y).length=ny at *
 clear hnx hny
 go_enter func211,ntmps211
 go_wp2_with fail
 refine (ae LOW1 _ (ae HA)).mono ?_
 rintro e w1 ⟨vx0,rfl,hvx0,hw⟩
 obtain rfl:=hw.symm
 have HX0:=af hvx0
 clear hw hvx0
 go_wp2_with fail
 refine (ae HI1 _ (ae HA)).mono ?_
 rintro e w1 ⟨vx1,rfl,hvx1,hw⟩
 obtain rfl:=hw.symm
 have HX1:=af hvx1
 clear hw hvx1
 go_wp2_with fail
 refine (ae LOW2 _ (ae HB)).mono ?_
 rintro e w1 ⟨vy0,rfl,hvy0,hw⟩
 obtain rfl:=hw.symm
 have HY0:=af hvy0
 clear hw hvy0
 go_wp2_with fail
 refine (ae HI2 _ (ae HB)).mono ?_
 rintro e w1 ⟨vy1,rfl,hvy1,hw⟩
 obtain rfl:=hw.symm
 have HY1:=af hvy1
 clear hw hvy1
 go_wp2_with fail
 refine (ae HIH vx0 vy0 x0 y0 _ (ae HX0) (ae HY0) (by have:=ae HLEN;omega)).mono ?_
 rintro e w1 ⟨vl0,rfl,hvl,hb1,-⟩
 have HL:=af hvl
 have B1:=af hb1
 clear hvl hb1
 go_wp2_with fail
 refine (ae HIH vx1 vy1 x1 y1 _ ((ae HX1).ah (ae B1)) ((ae HY1).ah (ae B1)) (by have:=ae HLEN;omega)).mono ?_
 rintro e w2 ⟨vh0,rfl,hvh,hb2,-⟩
 have HH:=af hvh
 have B2:Hid (But [] w w2):=(ae B1).trans' hb2
 have HL2:=af ((ae HL).ah hb2)
 clear hvh hb2
 go_wp2_with fail
 refine (ig vx0 vx1 x0 x1 _ ((ae HX0).ah (ae B2)) ((ae HX1).ah (ae B2)) (by have:=ae HLEN;omega) (by have:=ae HLEN;omega)).mono ?_
 rintro e w3 ⟨vsx,rfl,hvsx,hb3⟩
 have HSX:=af hvsx
 have B3:Hid (But [] w w3):=(ae B2).trans' hb3
 have B23:=af hb3
 clear hvsx hb3
 go_wp2_with fail
 refine (ig vy0 vy1 y0 y1 _ ((ae HY0).ah (ae B3)) ((ae HY1).ah (ae B3)) (by have:=ae HLEN;omega) (by have:=ae HLEN;omega)).mono ?_
 rintro e w4 ⟨vsy,rfl,hvsy,hb4⟩
 have HSY:=af hvsy
 have B4:Hid (But [] w w4):=(ae B3).trans' hb4
 have B24:Hid (But [] w2 w4):=(ae B23).trans' hb4
 have HSX4:=af ((ae HSX).ah hb4)
 clear hvsy hb4
 go_wp2_with fail
 refine (ae HIH vsx vsy (x0+x1) (y0+y1) _ (ae HSX4) (ae HSY) (by have:=ae HLEN;omega)).mono ?_
 rintro e w5 ⟨vp,rfl,hvp,hb5,-⟩
 have HP:=af hvp
 have B5:Hid (But [] w w5):=(ae B4).trans' hb5
 have B25:Hid (But [] w2 w5):=(ae B24).trans' hb5
 clear hvp hb5
 go_wp2_with fail
 refine (zax vp vl0 _ (x0*y0) _ (ae HP) ((ae HL2).ah (ae B25)) (by have:=ae HLEN;omega) (ae HLE1)).mono ?_
 rintro e w6 ⟨vc1,rfl,hvc1,hb6⟩
 have HC1:=af hvc1
 have B6:Hid (But [] w w6):=(ae B5).trans' hb6
 have B26:Hid (But [] w2 w6):=(ae B25).trans' hb6
 clear hvc1 hb6
 go_wp2_with fail
 refine (zax vc1 vh0 _ (x1*y1) _ (ae HC1) ((ae HH).ah (ae B26)) (by have:=ae HLEN;omega) (ae HLE2)).mono ?_
 rintro e w7 ⟨vc,rfl,hvc,hb7⟩
 have HCR:=af hvc
 have B7:Hid (But [] w w7):=(ae B6).trans' hb7
 have B27:Hid (But [] w2 w7):=(ae B26).trans' hb7
 clear hvc hb7 B26 B25 B24 B23 B6 B5 B4 B3 B1 HX0 HX1 HY0 HY1 HSX HSY HSX4 HP HC1 HA HB HIH LOW1 LOW2 HI1 HI2
 have hbm:=xh w7 (nx+ny) 24
 obtain⟨w8,hcp,HC⟩:=je (P:=prog) (w7.alloc (.cells (madeCells #[.int .u64 0] (nx+ny)) 24)) 102 103 24 underlying102 fw w7.heap.size 0 (nx+ny) (nx+ny) vl0 (List.replicate (nx+ny) 0) (wd 18446744073709551616 (x0*y0)) (Seg.made _ _ _) (by simp) (((ae HL2).ah (ae B27)).ah hbm) (by have:=ae HLEN;rw[List.length_replicate];omega)
 have R1:=zvk (wd 18446744073709551616 (x0*y0)) (nx+ny)
 have R2:=zrn (wd 18446744073709551616 (x0*y0)) (nx+ny) (zo (by omega) _)
 have R3:=zrp (wd 18446744073709551616 (x0*y0)) (nx+ny) (by have:=ae HLEN;omega)
 have R4:=fun j (hj:2*d≤j)=>zwy (wd 18446744073709551616 (x0*y0)) (nx+ny) j (by have:=ae HLEN;omega)
 rw[qg (by omega)] at R1
 have hsg8:=(ae HC).1
 have hb8:But [w7.heap.size] (w7.alloc (.cells (madeCells #[.int .u64 0] (nx+ny)) 24)) w8:=(ae HC).2.but
 have B8:But [] w7 w8:=hbm.trans hb8 (fun x hx=>by simp at hx;subst hx;exact .inr (Nat.le_refl _))
 have hg8:w7.heap.size<w8.heap.size:=Nat.lt_of_lt_of_le (by simp) hb8.size
 generalize wd 18446744073709551616 (x0*y0)++(List.replicate (nx+ny) 0).drop (wd 18446744073709551616 (x0*y0)).length=r1 at *
 have hsub:=hsg8.sub (2*d) (r1.length-2*d) (by omega)
 have lsub:((r1.drop (2*d)).take (r1.length-2*d)).length=r1.length-2*d:=by rw[List.length_take,List.length_drop];omega
 obtain⟨w9,hcp2,HC2⟩:=je (P:=prog) w8 102 103 24 underlying102 fw w7.heap.size (0+2*d) (r1.length-2*d) (r1.length-2*d) vh0 ((r1.drop (2*d)).take (r1.length-2*d)) (wd 18446744073709551616 (x1*y1)) hsub lsub.symm ((ae HH).ah ((ae B27).trans' B8)) (by have:=ae HLEN;rw[lsub];omega)
 have hS2:=hsg8.whole ((ae HC2).2.wide (Nat.le_refl _) (n':=r1.length-2*d) (by have:=ae HLEN;omega)) (ae HC2).1 (by rw[List.length_append,List.length_drop,lsub];have:=ae HLEN;omega) (by omega)
 have V2:=qil r1 (wd 18446744073709551616 (x1*y1)) (2*d) (by have:=ae HLEN;omega) (fun j hj=>R4 j hj)
 rw[qg (by omega),R1] at V2
 have M2:∀ x ∈ r1.take (2*d)++(wd 18446744073709551616 (x1*y1)++((r1.drop (2*d)).take (r1.length-2*d)).drop (wd 18446744073709551616 (x1*y1)).length)++r1.drop (2*d+(r1.length-2*d)),x < 18446744073709551616:=by
  intro x hx
  simp only[List.mem_append] at hx
  rcases hx with (hx | hx | hx) | hx
  ·exact R2 x (List.mem_of_mem_take hx)
  ·exact zo (by omega) _ x hx
  ·exact R2 x (List.mem_of_mem_drop (List.mem_of_mem_take (List.mem_of_mem_drop hx)))
  ·exact R2 x (List.mem_of_mem_drop hx)
 have L2:(r1.take (2*d)++(wd 18446744073709551616 (x1*y1)++((r1.drop (2*d)).take (r1.length-2*d)).drop (wd 18446744073709551616 (x1*y1)).length)++r1.drop (2*d+(r1.length-2*d))).length=nx+ny:=by
  simp only[List.length_append,List.length_take,List.length_drop]
  have:=ae HLEN
  omega
 rw[Nat.zero_add] at hS2 hcp2
 generalize r1.take (2*d)++(wd 18446744073709551616 (x1*y1)++((r1.drop (2*d)).take (r1.length-2*d)).drop (wd 18446744073709551616 (x1*y1)).length)++r1.drop (2*d+(r1.length-2*d))=r2 at *
 have hfit:vl 18446744073709551616 r2 + 18446744073709551616^d*((x0+x1)*(y0+y1)-x0*y0-x1*y1)=X*Y:=by
  rw[V2,← ae HSUM,Nat.two_mul,Nat.pow_add];omega
 have hb9:But [w7.heap.size] w8 w9:=(ae HC2).2.but
 have B9:But [] w7 w9:=B8.trans hb9 (fun x hx=>by simp at hx;subst hx;exact .inr (Nat.le_refl _))
 have hadd:=znu w7.heap.size d (r2.length-d) r2 ((x0+x1)*(y0+y1)-x0*y0-x1*y1) vc w9 hS2 (by omega) (Nat.le_refl _) ((ae HCR).ah B9) (fun hp=>l9 (ae HCR) hp _ (Nat.le_refl _)) M2 (by rw[hfit,L2];exact ae HXY) (by omega)
 rw[L2,hfit] at hadd
 rw[R3] at hcp2
 have HADD:=af hadd
 have HB9:Hid (But [] w w9):=(ae B7).trans' B9
 have HGE:w.heap.size≤w7.heap.size:=(ae B7).size
 clear hadd hfit hS2 V2 M2 L2 hb9 B9 R1 R2 R3 R4 HC HC2 hsub lsub hsg8 hb8 B8 hg8 hbm HCR HH HL HL2 HXY HSUM HLE1 HLE2 HBND HLEN B7 B27 B2
 have i1:(0:Int)≤(d:Int):=by omega
 have i2:(d:Int)<((nx+ny:Nat):Int):=by omega
 have i3:(2*(d:Int))<((nx+ny:Nat):Int):=by omega
 go_wp2_with fail
 refine (ae HADD).mono ?_
 rintro e w10 ⟨rs2,c,rfl,hl2,hm2,hv2,hs2,hb2⟩
 have hB10:Hid (But [] w w10):=(ae HB9).trans hb2 (fun x hx=>by simp at hx;subst hx;exact .inr HGE)
 have hsl:=hs2.sl (nx+ny) (by rw[hl2];exact Nat.le_refl _)
 rw[hl2] at hsl
 have HSL:=af hsl
 have HM2:=af hm2
 have HV2:=af hv2
 have HL2:rs2.length<2147483648:=by rw[hl2];omega
 clear hsl hm2 hv2 hl2 hs2 hb2 HADD HB9
 go_wp2_with fail
 refine (zz _ rs2 _ (ae HSL) (ae HM2) HL2).mono ?_
 rintro e w11 ⟨v7,rfl,hv7,hw,hsb⟩
 obtain rfl:=hw.symm
 clear hw
 rw[ae HV2] at hv7
 have HV7:=af hv7
 have HSB:=af hsb
 clear hv7 hsb
 go_wp2
 go_ret
 exact⟨v7,rfl,ae HV7,ae hB10,yh (ae HSB) HGE⟩)
theorem zed (k:Nat) (X Y:Nat) (IH:40<(wd 18446744073709551616 Y).length→zwx k) (va vb:Value) (w:World) (ha:Sl .u64 w va (wd 18446744073709551616 X)) (hb:Sl .u64 w vb (wd 18446744073709551616 Y)) (hle:(wd 18446744073709551616 Y).length≤(wd 18446744073709551616 X).length) (hk:(wd 18446744073709551616 X).length+(wd 18446744073709551616 Y).length≤k+1) (hl:(wd 18446744073709551616 X).length<134217728) (u v:Value) (huv:(u=va∧v=vb)∨((wd 18446744073709551616 Y).length<(wd 18446744073709551616 X).length∧u=vb∧v=va)) :
   Calls prog 171 #[u,v] w fun e w'=>∃ v',e=.returned v'∧Sl .u64 w' v' (wd 18446744073709551616 (X*Y))∧But [] w w'∧(mi w.heap.size v'∨(v'=va∧Y=1)):=by(
 obtain⟨a1,c1,rfl,hc1,-⟩:=id ha
 obtain⟨a2,c2,rfl,hc2,-⟩:=id hb
 by_cases h0:(wd 18446744073709551616 Y).length=0
 ·(
 have e:Y=0:=(ze (by omega) Y).1 h0
 subst e
 rw[Nat.mul_zero,zh]
 simp only[zh,List.length_nil] at *
 generalize (wd 18446744073709551616 X).length=nx at *
 clear ha hb IH
 rcases huv with ⟨rfl,rfl⟩|⟨hlt,rfl,rfl⟩
 all_goals(
 go_enter func171,ntmps171
 go_wp2
 go_ret
 exact⟨_,rfl,Sl.nil _ _,But.refl _ _,.inl fun b off n c e=>by simp at e⟩))
 by_cases hY1:Y=1
 ·(
 have HO:=af (fun W (h:Sl .u64 W (.slice a2 (wd 18446744073709551616 Y).length c2) (wd 18446744073709551616 Y))=>dm _ Y W h (by omega) true (by show true=_;rw[hY1];rfl))
 have HA:=af ha
 have HB:=af hb
 have HX:Hid (wd 18446744073709551616 X=wd 18446744073709551616 (X*Y)):=by show _=_;rw[hY1,Nat.mul_one]
 have HY:=af hY1
 clear ha hb IH hY1
 generalize (wd 18446744073709551616 X).length=nx at *
 generalize (wd 18446744073709551616 Y).length=ny at *
 have n0:((ny:Int)==0)=false:=beq_eq_false_iff_ne.2 (by omega)
 rcases huv with ⟨rfl,rfl⟩|⟨hlt,rfl,rfl⟩
 all_goals(
 go_enter func171,ntmps171
 go_wp2_with fail
 refine (ae HO _ (ae HB)).mono ?_
 rintro e w1 ⟨rfl,h⟩
 obtain rfl:=h.symm
 clear h
 go_wp2
 go_ret
 exact⟨_,rfl,by rw[← ae HX];exact ae HA,But.refl _ _,.inr ⟨rfl,ae HY⟩⟩))
 ·(
 have HO:=af (fun W (h:Sl .u64 W (.slice a2 (wd 18446744073709551616 Y).length c2) (wd 18446744073709551616 Y))=>dm _ Y W h (by omega) false (by show false=_;simp;exact hY1))
 have HBB:=af hb
 by_cases hs:(wd 18446744073709551616 Y).length≤40
 ·(
 have hm:=zou _ _ _ _ w ha hb (zo (by omega) X) (zo (by omega) Y) (by omega) (by omega) (by omega) (by omega)
 rw[qg (by omega),qg (by omega)] at hm
 have HM:=af hm
 clear hm ha hb IH
 generalize (wd 18446744073709551616 X).length=nx at *
 generalize (wd 18446744073709551616 Y).length=ny at *
 have n0:((ny:Int)==0)=false:=beq_eq_false_iff_ne.2 (by omega)
 rcases huv with ⟨rfl,rfl⟩|⟨hlt,rfl,rfl⟩
 all_goals(
 go_enter func171,ntmps171
 go_wp2_with fail
 refine (ae HO _ (ae HBB)).mono ?_
 rintro e w1 ⟨rfl,h⟩
 obtain rfl:=h.symm
 clear h
 go_wp2_with fail
 refine (ae HM).mono ?_
 rintro e w1 ⟨v',rfl,h1,h2,h3⟩
 have H1:=af (And.intro h1 (And.intro h2 h3))
 clear h1 h2 h3
 go_wp2
 go_ret
 exact⟨v',rfl,(ae H1).1,(ae H1).2.1,.inl (ae H1).2.2⟩))
 ·(
 obtain⟨d,hd⟩:∃ d,d=((wd 18446744073709551616 X).length+1)/2:=⟨_,rfl⟩
 by_cases hh:(wd 18446744073709551616 Y).length≤d
 ·(
 have hm:=zmf k (IH (by omega)) _ _ X Y d w ha hb (by omega) (by omega) (by omega) hY1 (by omega) (by omega) (by omega) (by omega)
 have HM:=af hm
 clear hm ha hb IH
 generalize (wd 18446744073709551616 X).length=nx at *
 generalize (wd 18446744073709551616 Y).length=ny at *
 have e1:((nx:Int)+1)/2=(d:Int):=by omega
 have n0:((ny:Int)==0)=false:=beq_eq_false_iff_ne.2 (by omega)
 have h1':2*d≤nx+1:=by omega
 have h2':nx≤2*d:=by omega
 clear hd
 rcases huv with ⟨rfl,rfl⟩|⟨hlt,rfl,rfl⟩
 all_goals(
 go_enter func171,ntmps171
 go_wp2_with fail
 refine (ae HO _ (ae HBB)).mono ?_
 rintro e w1 ⟨rfl,h⟩
 obtain rfl:=h.symm
 clear h
 go_wp2_with fail
 refine (ae HM).mono ?_
 rintro e w1 ⟨v',rfl,h1,h2,h3⟩
 have H1:=af (And.intro h1 (And.intro h2 h3))
 clear h1 h2 h3
 go_wp2
 go_ret
 exact⟨v',rfl,(ae H1).1,(ae H1).2.1,.inl (ae H1).2.2⟩))
 ·(
 have hm:=zmk k (IH (by omega)) _ _ X Y d w ha hb (by omega) (by omega) (by omega) (by omega) (by omega) (by omega) (by omega)
 have HM:=af hm
 clear hm ha hb IH
 generalize (wd 18446744073709551616 X).length=nx at *
 generalize (wd 18446744073709551616 Y).length=ny at *
 have e1:((nx:Int)+1)/2=(d:Int):=by omega
 have n0:((ny:Int)==0)=false:=beq_eq_false_iff_ne.2 (by omega)
 have h1':2*d≤nx+1:=by omega
 have h2':nx≤2*d:=by omega
 clear hd
 rcases huv with ⟨rfl,rfl⟩|⟨hlt,rfl,rfl⟩
 all_goals(
 go_enter func171,ntmps171
 go_wp2_with fail
 refine (ae HO _ (ae HBB)).mono ?_
 rintro e w1 ⟨rfl,h⟩
 obtain rfl:=h.symm
 clear h
 go_wp2_with fail
 refine (ae HM).mono ?_
 rintro e w1 ⟨v',rfl,h1,h2,h3⟩
 have H1:=af (And.intro h1 (And.intro h2 h3))
 clear h1 h2 h3
 go_wp2
 go_ret
 exact⟨v',rfl,(ae H1).1,(ae H1).2.1,.inl (ae H1).2.2⟩)))))
theorem qjm (k:Nat) (hk:k<134217728):zwx k:=by(
 induction k with
 | zero =>
  intro va vb m n w ha hb h
  have hm:(wd 18446744073709551616 m).length=0:=by omega
  have hn:(wd 18446744073709551616 n).length=0:=by omega
  exact (zed 0 m n (fun h=>by omega) va vb w ha hb (by omega) (by omega) (by omega) va vb (.inl ⟨rfl,rfl⟩)).mono fun e w' ⟨v',h1,h2,h3,h4⟩=>⟨v',h1,h2,h3,h4.elim .inl fun h=>.inr (.inl h)⟩
 | succ k ih =>
  intro va vb m n w ha hb h
  rcases Nat.lt_or_ge (wd 18446744073709551616 m).length (wd 18446744073709551616 n).length with hlt | hge
  ·have:=zed k n m (fun _=>ih (by omega)) vb va w hb ha (by omega) (by omega) (by omega) va vb (.inr ⟨hlt,rfl,rfl⟩)
   rw[Nat.mul_comm] at this
   exact this.mono fun e w' ⟨v',h1,h2,h3,h4⟩=>⟨v',h1,h2,h3,h4.elim .inl fun h=>.inr (.inr h)⟩
  ·exact (zed k m n (fun _=>ih (by omega)) va vb w ha hb hge (by omega) (by omega) va vb (.inl ⟨rfl,rfl⟩)).mono fun e w' ⟨v',h1,h2,h3,h4⟩=>⟨v',h1,h2,h3,h4.elim .inl fun h=>.inr (.inl h)⟩)
theorem qz (va vb:Value) (m n:Nat) (w:World) (ha:Sl .u64 w va (wd 18446744073709551616 m)) (hb:Sl .u64 w vb (wd 18446744073709551616 n)) (hl:(wd 18446744073709551616 m).length+(wd 18446744073709551616 n).length<134217728) :
  Calls prog 171 #[va,vb] w fun e w'=>∃ v',e=.returned v'∧Sl .u64 w' v' (wd 18446744073709551616 (m*n))∧But [] w w'∧zst w.heap.size v' va vb m n :=
 qjm _ hl va vb m n w ha hb (Nat.le_refl _)
end Go.Proofs.YtagmkkiagjmimaaGreatDoor
