/- A whole number is divided by another one -/
import Derived.Deep.LoopGhost
import Derived.Test.YtagmkkiagjmimaaGreatDoorXG0
import Derived.Test.YtagmkkiagjmimaaGreatDoorXN17
import Derived.Test.YtagmkkiagjmimaaGreatDoorXN31
namespace Go.Proofs.YtagmkkiagjmimaaGreatDoor
set_option linter.unusedVariables false
open Go.Proofs.Tryz
open Go.RowKit
set_option maxHeartbeats 8000000
set_option maxRecDepth 100000
theorem zpg (vx vy:Value) (X Y:Nat) (w:World) (hx:Sl .u64 w vx (wd 18446744073709551616 X)) (hy:Sl .u64 w vy (wd 18446744073709551616 Y)) (hY:0<Y) (hl:(wd 18446744073709551616 X).length<134217728) (hly:(wd 18446744073709551616 Y).length<134217728)
   (hD:2≤(wd 18446744073709551616 Y).length→Y≤X→fe (X*2^lz (qh Y)) (Y*2^lz (qh Y))) :
   Calls prog 189 #[vx,vy] w fun e w'=>∃ v1 v2,e=.returned (.tuple #[v1,v2])∧Sl .u64 w' v1 (wd 18446744073709551616 (X/Y))∧Sl .u64 w' v2 (wd 18446744073709551616 (X%Y))∧But [] w w'∧jg w vx w' v2:=by(
 have hcmp:=kz vx vy X Y w hx hy (by omega) (by omega)
 rcases Nat.lt_or_ge X Y with hlt | hge
 ·(
 rw[sw hlt] at hcmp
 rw[Nat.div_eq_of_lt hlt,Nat.mod_eq_of_lt hlt,zq]
 have HC:=af hcmp
 have HX:=af hx
 obtain⟨a1,c1,rfl,-,-⟩:=hx
 obtain⟨a2,c2,rfl,-,-⟩:=hy
 clear hcmp hD
 generalize (wd 18446744073709551616 X).length=nx at *
 generalize (wd 18446744073709551616 Y).length=ny at *
 go_enter func189,ntmps189
 go_wp2_with fail
 refine (ae HC).mono ?_
 rintro e w1 ⟨rfl,q,rfl⟩
 go_wp2
 go_ret2
 exact⟨_,_,rfl,Sl.nil _ _,ae HX,(But.refl _ _).drewN q,jg.self _ _ _⟩)
 ·(
 have hc0:=zbb hge
 generalize zz X Y=r at *
 have hr:decide (r<0)=false:=by simp;omega
 have HC:=af hcmp
 have HX:=af hx
 have HY:=af hy
 rcases hy.open with ⟨e,-⟩|⟨hp,b2,o2,c2,rfl,hc2,-,hcell⟩
 ·rw[wh (by omega)] at e;omega
 obtain⟨a1,c1,rfl,-,-⟩:=hx
 by_cases h1:(wd 18446744073709551616 Y).length=1
 ·(
 have hYB:Y < 18446744073709551616:=by
  have:=am (B:=18446744073709551616) (by omega) Y 1 (by omega)
  rw[Nat.pow_one] at this
  exact this
 have hc:=hcell 0 (by omega)
 rw[Nat.add_zero,zdm Y hY hYB] at hc
 simp only[List.getElem?_cons_zero,Option.getD_some] at hc
 have HB:=af (fun (W:World) (h:Sl .u64 W (.slice a1 (wd 18446744073709551616 X).length c1) (wd 18446744073709551616 X))=>zgm _ X Y W h (by omega) hY hYB)
 have hmod:X%Y < 18446744073709551616:=Nat.lt_trans (Nat.mod_lt _ hY) hYB
 clear hcmp hD hcell hy
 generalize hnx:(wd 18446744073709551616 X).length=nx at *
 generalize hny:(wd 18446744073709551616 Y).length=ny at *
 clear hnx hny
 have e1:((ny:Int)==1)=true:=beq_iff_eq.2 (by omega)
 have hp1:(0:Int)<(ny:Int):=by omega
 have HE:=af h1
 clear h1
 go_enter func189,ntmps189
 go_wp2_with fail
 refine (ae HC).mono ?_
 rintro e w1 ⟨rfl,q,rfl⟩
 go_wp2_with fail
 refine (ae HB _ (by exact ae HX)).mono ?_
 rintro e w2 ⟨v1,rfl,hv1,hb2⟩
 have B2:Hid (But [] w w2):=((But.refl [] _).drewN q).trans' hb2
 have HV1:=af hv1
 clear hb2 hv1
 go_wp2_with fail
 refine (oq (X%Y) hmod _).mono ?_
 rintro e w3 ⟨v2,rfl,hv2,hb3,ho3⟩
 have ALL:=af (And.intro ((ae HV1).ah hb3) (And.intro hv2 (And.intro ((ae B2).trans' hb3) (ho3.mono (ae B2).size))))
 clear hv2 hb3 ho3
 go_wp2
 go_ret2
 exact⟨v1,v2,rfl,(ae ALL).1,(ae ALL).2.1,(ae ALL).2.2.1,jg.zes (ae ALL).2.2.2⟩)
 ·(
 obtain⟨t1,t2,-,-⟩:=zfe Y hY
 have hs:=(zak (qh Y) t1 t2).1
 have hDO:=hD (by omega) hge
 have hct:=hcell ((wd 18446744073709551616 Y).length-1) (by omega)
 have LZ:=af (fun W=>zev (qh Y) t1 t2 W)
 have hnl:=zsc Y hY
 have hsl:=zor X (lz (qh Y)) hs
 rw[show (wd 18446744073709551616 Y)[(wd 18446744073709551616 Y).length-1]?.getD 0=qh Y from rfl] at hct
 have HL1:=af (fun (W:World) (h:Sl .u64 W (.slice a1 (wd 18446744073709551616 X).length c1) (wd 18446744073709551616 X))=>zji _ X (lz (qh Y)) W h (by omega) hs)
 have HL2:=af (fun (W:World) (h:Sl .u64 W (.slice (some ⟨b2,o2,none⟩) (wd 18446744073709551616 Y).length c2) (wd 18446744073709551616 Y))=>zji _ Y (lz (qh Y)) W h (by omega) hs)
 have hz:0<2^lz (qh Y):=Nat.pow_pos (by omega)
 have HDO:=af hDO
 unfold fe at HDO
 rw[Nat.mul_div_mul_right _ _ hz,Nat.mul_mod_mul_right] at HDO
 have hrl:(wd 18446744073709551616 (X%Y*2^lz (qh Y))).length<1073741824:=by
  have:=zor (X%Y) (lz (qh Y)) hs
  have h3:=aw (Nat.mod_le X Y)
  omega
 have HRR:=af (fun (v:Value) (W:World) (h:Sl .u64 W v (wd 18446744073709551616 (X%Y*2^lz (qh Y))))=>zpf v (X%Y*2^lz (qh Y)) (lz (qh Y)) W h hrl hs)
 rw[Nat.mul_div_cancel _ hz] at HRR
 clear hcmp hD hDO hcell hy hnl hsl hz
 generalize lz (qh Y)=s at *
 generalize qh Y=t at *
 generalize hnx:(wd 18446744073709551616 X).length=nx at *
 generalize hny:(wd 18446744073709551616 Y).length=ny at *
 clear hnx hny
 have e1:((ny:Int)==1)=false:=beq_eq_false_iff_ne.2 (by omega)
 go_enter func189,ntmps189
 go_wp2_with fail
 refine (ae HC).mono ?_
 rintro e w1 ⟨rfl,q,rfl⟩
 go_wp2_with fail
 refine (ae LZ _).mono ?_
 rintro e w1 ⟨rfl,hw⟩
 obtain rfl:=hw.symm
 clear hw
 go_wp2_with fail
 refine (ae HL1 _ (by exact ae HX)).mono ?_
 rintro e w2 ⟨v1,rfl,hv1,hb2,hp2⟩
 have B2:Hid (But [] w w2):=((But.refl [] _).drewN q).trans' hb2
 have HE1:Hid (jg w (.slice a1 nx c1) w2 v1):=by
  rcases hp2 with rfl | ho
  ·exact jg.self _ _ _
  ·exact (jg.zes ho).pre (Nat.le_refl _)
 have HV1:=af hv1
 clear hb2 hv1 hp2
 go_wp2_with fail
 refine (ae HL2 _ ((ae HY).ah (ae B2))).mono ?_
 rintro e w3 ⟨v2,rfl,hv2,hb3,-⟩
 have B3:Hid (But [] w w3):=(ae B2).trans' hb3
 have HV2:=af hv2
 have HV1':=af ((ae HV1).ah hb3)
 have HE1':=af ((ae HE1).but (ae HV1) hb3)
 clear hv2 hb3 HV1 HE1
 go_wp2_with fail
 refine (ae HDO v1 v2 _ (ae HV1') (ae HV2)).mono ?_
 rintro e w4 ⟨v3,v4,rfl,hv3,hv4,hb4,he4⟩
 have B4:Hid (But [] w w4):=(ae B3).trans' hb4
 have H3:=af hv3
 have H4:=af hv4
 have HE4:=af ((ae HE1').trans (ae HV1') hb4 (ae B3).size he4)
 clear hv3 hv4 hb4 he4 HE1'
 go_wp2_with fail
 refine (ae HRR v4 _ (ae H4)).mono ?_
 rintro e w5 ⟨v5,rfl,hv5,hb5,hp5⟩
 have HE5:jg w (.slice a1 nx c1) w5 v5:=by
  rcases hp5 with rfl | ho
  ·exact (ae HE4).but (ae H4) hb5
  ·exact (jg.zes ho).pre (ae B4).size
 have ALL:=af (And.intro ((ae H3).ah hb5) (And.intro hv5 (And.intro ((ae B4).trans' hb5) HE5)))
 clear hv5 hb5 hp5 HE5 HE4
 go_wp2
 go_ret2
 exact⟨v3,v5,rfl,(ae ALL).1,(ae ALL).2.1,(ae ALL).2.2.1,(ae ALL).2.2.2⟩)))
def Short (X _Y:Nat):Prop:=(wd 18446744073709551616 X).length≤1000000
theorem Short.of (X Y:Nat) (h:(wd 18446744073709551616 X).length≤1000000):Short X Y:=h
theorem zct (vx vy:Value) (X Y:Nat) (w:World) (hx:Sl .u64 w vx (wd 18446744073709551616 X)) (hy:Sl .u64 w vy (wd 18446744073709551616 Y)) (hY:0<Y) (hl:(wd 18446744073709551616 X).length<134217728) (hly:(wd 18446744073709551616 Y).length<134217728) (hs:Short X Y) :
  Calls prog 189 #[vx,vy] w fun e w'=>∃ v1 v2,e=.returned (.tuple #[v1,v2])∧Sl .u64 w' v1 (wd 18446744073709551616 (X/Y))∧Sl .u64 w' v2 (wd 18446744073709551616 (X%Y))∧But [] w w'∧jg w vx w' v2 :=
 zpg vx vy X Y w hx hy hY hl hly (fun h2 hle=>by
  obtain⟨t1,t2,-,-⟩:=zfe Y hY
  have hz:=(zak (qh Y) t1 t2).1
  have h3:=zsc Y hY
  have h4:=zor X (lz (qh Y)) hz
  have h5:=aw hle
  unfold Short at hs
  exact zsx (wd 18446744073709551616 (X*2^lz (qh Y))).length _ _ (Nat.le_refl _) (by omega) (by omega))
theorem lv (vx vy:Value) (X Y:Nat) (w:World) (hx:Sl .u64 w vx (wd 18446744073709551616 X)) (hy:Sl .u64 w vy (wd 18446744073709551616 Y)) (hY:0<Y) (hl:(wd 18446744073709551616 X).length<134217728) (hly:(wd 18446744073709551616 Y).length<134217728) (hs:Short X Y) :
   Calls prog 170 #[vx,vy] w fun e w'=>∃ v1,e=.returned v1∧Sl .u64 w' v1 (wd 18446744073709551616 (X/Y))∧But [] w w':=by(
 have HX:=af hx
 have HQ:=af (zct vx vy X Y w hx hy hY hl hly hs)
 have HO:=af (fun r hr=>nu vy Y w hy (by omega) r hr)
 obtain⟨a1,c1,rfl,-,-⟩:=hx
 obtain⟨a2,c2,rfl,-,-⟩:=hy
 clear hs
 generalize (wd 18446744073709551616 X).length=nx at *
 generalize (wd 18446744073709551616 Y).length=ny at *
 by_cases h1:Y=1
 ·(
 subst h1
 rw[Nat.div_one]
 go_enter func170,ntmps170
 go_wp2_with fail
 refine (ae HO true (by show true=_;simp)).mono ?_
 rintro e w1 ⟨rfl,hw⟩
 obtain rfl:=hw.symm
 clear hw
 go_wp2
 go_ret
 exact⟨_,rfl,ae HX,But.refl _ _⟩)
 ·(
 go_enter func170,ntmps170
 go_wp2_with fail
 refine (ae HO false (by show false=_;simp[h1])).mono ?_
 rintro e w1 ⟨rfl,hw⟩
 obtain rfl:=hw.symm
 clear hw
 go_wp2_with fail
 refine (ae HQ).mono ?_
 rintro e w2 ⟨v1,v2,rfl,hv1,-,hb2,-⟩
 have ALL:=af (And.intro hv1 hb2)
 clear hv1 hb2
 go_wp2
 go_ret
 exact⟨v1,rfl,(ae ALL).1,(ae ALL).2⟩))
theorem zro {lo:Nat} {W w':World} {vx vy v2:Value} {X Y:Nat} (hp:znf lo W vx vy X Y) (hY:0<Y) (hle:Y≤X) (hlo:lo≤W.heap.size) (h2:Sl .u64 w' v2 (wd 18446744073709551616 (X%Y))) (hb:But [] W w') (he:jg W vx w' v2):Less lo W X Y (.returned (.tuple #[vy,v2])) w' :=
 ⟨vy,v2,Y,X%Y,rfl,⟨hp.s2.ah hb,h2,hp.o2.but hp.s2 hb,he.own hp.o1 hlo hp.s1 hb,fun b off n c b' off' n' c' e1 e2=>by
  have hpos:0<(wd 18446744073709551616 Y).length:=by rw[Nat.pos_iff_ne_zero];intro e;rw[zo (by omega)] at e;omega
  have h4:=hp.s2.lt hpos b off n c e1
  rcases he _ _ _ _ e2 with ⟨h3,-⟩|⟨o0,n0,c0,e0,-,-⟩
  ·omega
  ·exact fun e=>hp.ap _ _ _ _ _ _ _ _ e0 e1 e.symm⟩,Nat.le_of_lt (Nat.mod_lt _ hY),Nat.mod_lt _ hY,hle,zpq X Y,[],by simp,hb⟩
theorem Less.pre {lo:Nat} {w W:World} {X Y:Nat} {e:Ending} {w':World} (h:Less lo W X Y e w') (hb:But [] w W):Less lo w X Y e w':=by
 obtain⟨v1,v2,X',Y',h1,h2,h3,h4,h5,h6,l,h7,h8⟩:=h
 exact⟨v1,v2,X',Y',h1,h2,h3,h4,h5,h6,l,h7,(But.of_nil hb).trans h8 (fun x hx=>.inl hx)⟩
theorem zhj (lo:Nat) (vx vy:Value) (X Y:Nat) (w:World) (hp:znf lo w vx vy X Y) (h2:2≤(wd 18446744073709551616 Y).length) (hle:Y≤X) (hl:(wd 18446744073709551616 X).length≤1000000) (hlo:lo≤w.heap.size) :
   Calls prog 207 #[vx,vy] w fun e w'=>Less lo w X Y e w':=by(
 have hlen:=aw hle
 have hY:0<Y:=by
  rcases Nat.eq_zero_or_pos Y with h | h
  ·subst h;rw[zq] at h2;simp at h2
  ·exact h
 have HQ:=af (fun (W:World) (h:znf lo W vx vy X Y)=>zct vx vy X Y W h.s1 h.s2 hY (by omega) (by omega) (Short.of X Y hl))
 have HT:=af (fun (W:World) (h:znf lo W vx vy X Y) xx xy yx yy back=>zxp lo vx vy X Y xx xy yx yy back W h h2 hle (by omega))
 have HS:=af (fun (h:(wd 18446744073709551616 X).length<(wd 18446744073709551616 Y).length+2)=>zqs vx vy X Y w hp.s1 hp.s2 h2 h hle (by omega))
 have HP:=af hp
 obtain⟨a1,c1,rfl,-,-⟩:=hp.s1
 obtain⟨a2,c2,rfl,-,-⟩:=hp.s2
 clear hp
 have HLO:=af hlo
 clear hlo
 generalize (wd 18446744073709551616 X).length=nx at *
 generalize (wd 18446744073709551616 Y).length=ny at *
 by_cases hn:nx<ny+2
 ·(
 go_enter func207,ntmps207
 go_wp2_with fail
 refine (ae HS hn).mono ?_
 rintro e w1 ⟨xx,xy,yx,yy,back,rfl,hxx,hxy,hyx,hyy,hok,hb1⟩
 have HOK:=af hok
 have HB1:=af hb1
 clear hok hb1 HS
 have BW:Hid (But [] w (w1.alloc (.cells #[.int .u64 (xx:Int),.int .u64 (xy:Int),.int .u64 (yx:Int),.int .u64 (yy:Int),.bool back] 276))):=(ae HB1).alloc _
 by_cases h0:xy=0
 ·(
 subst h0
 go_wp2_with fail
 refine (ae HQ _ ((ae HP).but (ae BW))).mono ?_
 rintro e w2 ⟨v1,v2,rfl,-,hv2,hb2,ho2⟩
 have R:=af ((zro ((ae HP).but (ae BW)) hY hle (Nat.le_trans (ae HLO) (ae BW).size) hv2 hb2 ho2).pre (ae BW))
 clear hv2 hb2 ho2
 go_wp2
 go_ret2
 exact ae R)
 ·(
 have hz:((xy:Int) != 0)=true:=by simp;exact h0
 go_wp2_with fail
 refine (ae HT _ ((ae HP).but (ae BW)) xx xy yx yy back hxx hxy hyx hyy (ae HOK) h0).mono ?_
 intro e w2 hless
 obtain⟨v1,v2,X',Y',rfl,hrest⟩:=hless
 have R:=af ((show Less lo _ X Y (.returned (.tuple #[v1,v2])) w2 from ⟨v1,v2,X',Y',rfl,hrest⟩).pre (ae BW))
 clear hrest
 go_wp2
 go_ret2
 exact ae R))
 ·(
 go_enter func207,ntmps207
 go_wp2_with fail
 refine (ae HQ _ (ae HP)).mono ?_
 rintro e w2 ⟨v1,v2,rfl,-,hv2,hb2,ho2⟩
 have R:=af (zro (ae HP) hY hle (ae HLO) hv2 hb2 ho2)
 clear hv2 hb2 ho2
 go_wp2
 go_ret2
 exact ae R))
def ziw (w:World) (X Y:Nat) (Y':Nat) (vx vy:Value) (wr:World):Prop:=∃ X',Sl .u64 wr vx (wd 18446744073709551616 X')∧Sl .u64 wr vy (wd 18446744073709551616 Y')∧Y'≤X'∧X'≤X∧Nat.gcd X' Y'=Nat.gcd X Y∧But [] w wr∧(2≤(wd 18446744073709551616 Y').length→znf w.heap.size wr vx vy X' Y')
theorem zjj (vx vy:Value) (X Y:Nat) (w:World) (hx:Sl .u64 w vx (wd 18446744073709551616 X)) (hy:Sl .u64 w vy (wd 18446744073709551616 Y)) (hle:Y<X) (h1:1<Y) (hl:(wd 18446744073709551616 X).length≤1000000) (u v:Value) (r:Int) (hcmp:Hid (Calls prog 191 #[u,v] w fun e w'=>e=.returned (.int .i64 r)∧∃ q,w'=w.drewN q)) (huv:(u=vx∧v=vy∧r=1)∨(u=vy∧v=vx∧r=-1)) :
   Calls prog 168 #[u,v] w fun e w'=>∃ v',e=.returned v'∧Sl .u64 w' v' (wd 18446744073709551616 (Nat.gcd X Y))∧But [] w w':=by(
 have hlen:=aw (Nat.le_of_lt hle)
 have hYl:0<(wd 18446744073709551616 Y).length:=by rw[Nat.pos_iff_ne_zero];intro e;rw[zo (by omega)] at e;omega
 have HO:=af (fun W (h:Sl .u64 W vy (wd 18446744073709551616 Y))=>nu vy Y W h (by omega) false (by show false=_;simp;omega))
 rcases hx.open with ⟨e,-⟩|⟨-,b1,o1,c1,rfl,hc1,-,-⟩
 ·rw[e,List.length_nil] at hlen;omega
 rcases hy.open with ⟨e,-⟩|⟨-,b2,o2,c2,rfl,hc2,-,-⟩
 ·rw[e] at hYl;simp at hYl
 have HC1:=af (fun W (h:Sl .u64 W (.slice (some ⟨b1,o1,none⟩) (wd 18446744073709551616 X).length c1) (wd 18446744073709551616 X))=>znz b1 o1 c1 (wd 18446744073709551616 X) W h (by omega) (by omega))
 have HC2:=af (fun W (h:Sl .u64 W (.slice (some ⟨b2,o2,none⟩) (wd 18446744073709551616 Y).length c2) (wd 18446744073709551616 Y))=>znz b2 o2 c2 (wd 18446744073709551616 Y) W h (by omega) (by omega))
 have HX:=af hx
 have HY:=af hy
 clear hx hy
 generalize hnx:(wd 18446744073709551616 X).length=nx at *
 generalize hny:(wd 18446744073709551616 Y).length=ny at *
 have NX:=af hnx
 have NY:=af hny
 clear hnx hny
 have n0:((ny:Int)==0)=false:=beq_eq_false_iff_ne.2 (by omega)
 by_cases h2:2≤ny
 ·(
 rcases huv with ⟨rfl,rfl,rfl⟩|⟨rfl,rfl,rfl⟩
 all_goals(
 go_enter func168,ntmps168
 go_wp2_with fail
 refine (ae hcmp).mono ?_
 rintro e w1 ⟨rfl,q,rfl⟩
 go_wp2_with fail
 refine (ae HO _ (by exact ae HY)).mono ?_
 rintro e w1 ⟨rfl,hw⟩
 obtain rfl:=hw.symm
 clear hw
 go_wp2_with fail
 refine (ae HC1 _ (by exact ae HX)).mono ?_
 rintro e w2 ⟨v1,rfl,hv1,hb1,ho1,g1,d1,rfl⟩
 have B1:Hid (But [] w w2):=((But.refl [] _).drewN q).trans' hb1
 have P1:=af (And.intro hv1 ho1)
 clear hv1 hb1 ho1
 go_wp2_with fail
 refine (ae HC2 _ ((ae HY).ah (ae B1))).mono ?_
 rintro e w3 ⟨v2,rfl,hv2,hb2,ho2,g2,d2,rfl⟩
 have hap:g1<w2.heap.size:=(ae P1).1.lt (by rw[ae NX];omega) g1 0 _ _ rfl
 have hap2:w2.heap.size≤g2:=(ho2 _ _ _ _ rfl).1
 have A0:Hid (ziw w X Y Y (.slice (some ⟨g1,0,none⟩) nx d1) (.slice (some ⟨g2,0,none⟩) ny d2) w3) :=
  ⟨X,(ae P1).1.ah hb2,hv2,Nat.le_of_lt hle,Nat.le_refl _,rfl,(ae B1).trans' hb2,fun _=>⟨(ae P1).1.ah hb2,hv2,(ae P1).2.but (ae P1).1 hb2,ho2.mono (ae B1).size,fun b off n c b' off' n' c' e1 e2=>by
   simp only[Value.slice.injEq,Option.some.injEq,Addr.mk.injEq] at e1 e2
   obtain⟨⟨rfl,-⟩,-⟩:=e1
   obtain⟨⟨rfl,-⟩,-⟩:=e2
   omega⟩⟩
 clear hv2 hb2 ho2 P1 B1 HC1 HC2 hap hap2
 go_wp2_with fail
 go_loopg [0,1] Y (fun k p1 p2 wr=>Hid (ziw w X Y k p1 p2 wr))
 case atStart=>exact A0
 case round =>(
 clear A0
 obtain⟨X',hs1,hs2,hYX,hXX,hg,hB,hP⟩:=ae hrel
 have hl1:=aw hXX
 have hl2:=aw hYX
 have HI:=af (And.intro hs1 (And.intro hs2 (And.intro hYX (And.intro hXX (And.intro hg (And.intro hB hP))))))
 rw[ae NX] at hl1
 by_cases hk2:2≤(wd 18446744073709551616 gk).length
 ·(
 have HL:=af (zhj w.heap.size _ _ X' gk wr (hP hk2) hk2 hYX (by omega) hB.size)
 obtain⟨a1,d1,rfl,-,-⟩:=hs1
 obtain⟨a2,d2,rfl,-,-⟩:=hs2
 clear hrel hg hB hP
 generalize (wd 18446744073709551616 X').length=m1 at *
 generalize (wd 18446744073709551616 gk).length=m2 at *
 go_wp2_with fail
 refine (ae HL).mono ?_
 rintro e w5 ⟨v1,v2,X2,Y2,rfl,hp2,hle2,hlt2,hX2,hg2,l,hlo,hbl⟩
 have R:Hid (ziw w X Y Y2 v1 v2 w5):=⟨X2,hp2.s1,hp2.s2,hle2,by omega,by rw[hg2];exact (ae HI).2.2.2.2.1,(ae HI).2.2.2.2.2.1.trans hbl (fun x hx=>.inr (hlo x hx)),fun _=>hp2⟩
 clear hp2 hg2 hlo hbl
 go_wp2
 go_roundg Y2
 case measure=>exact hlt2
 case rel=>exact R)
 ·(
 rcases Nat.eq_zero_or_pos gk with hz | hz
 ·(
 subst hz
 rw[Nat.gcd_zero_right] at hg
 rw[zq] at hs2
 obtain⟨a1,d1,rfl,-,-⟩:=id hs1
 obtain⟨a2,d2,rfl,-,-⟩:=hs2
 have R:=af (And.intro hs1 hB)
 have HG:=af hg
 clear hrel hg hB hP hs1 hk2 HI hl2
 generalize (wd 18446744073709551616 X').length=m1 at *
 go_wp2
 go_ret
 exact⟨_,rfl,by rw[← ae HG];exact (ae R).1,(ae R).2⟩)
 ·(
 have hkB:gk < 18446744073709551616:=by
  rcases Nat.lt_or_ge gk 18446744073709551616 with h | h
  ·exact h
  ·exact absurd (zdn gk h) hk2
 rcases zfc hs2 hkB with ⟨rfl,-⟩|⟨-,b,off,c,rfl,hcell⟩
 ·omega
 have HBY:=af (zgm _ X' gk wr hs1 (by omega) hz hkB)
 have hmB:X' % gk < 18446744073709551616:=Nat.lt_trans (Nat.mod_lt _ hz) hkB
 have GW:=af (fun W=>j3 gk (X' % gk) W hkB hmB)
 have hgB:Nat.gcd gk (X' % gk) < 18446744073709551616:=Nat.lt_of_le_of_lt (Nat.gcd_le_left _ hz) hkB
 have HG:Hid (Nat.gcd gk (X' % gk)=Nat.gcd X Y):=by show _=_;rw[zpq];exact hg
 have HOF:=af (fun W=>oq (Nat.gcd gk (X' % gk)) hgB W)
 obtain⟨a1,d1,rfl,-,-⟩:=id hs1
 have HB:=af hB
 clear hrel hg hB hP hs1 hs2 HI hl2
 generalize (wd 18446744073709551616 X').length=m1 at *
 go_wp2_with fail
 refine (ae HBY).mono ?_
 rintro e w5 ⟨v5,rfl,-,hb5⟩
 have hc5:=hb5.ag hcell (by simp)
 have HB5:=af hb5
 clear hb5 hcell
 go_wp2_with fail
 refine (ae GW _).mono ?_
 rintro e w6 ⟨rfl,q6,rfl⟩
 go_wp2_with fail
 refine (ae HOF _).mono ?_
 rintro e w7 ⟨v7,rfl,hv7,hb7,-⟩
 rw[ae HG] at hv7
 have R:=af (And.intro hv7 ((ae HB).trans' ((ae HB5).trans' (((But.refl [] _).drewN q6).trans' hb7))))
 clear hv7 hb7
 go_wp2
 go_ret
 exact⟨v7,rfl,(ae R).1,(ae R).2⟩)))))
 ·(
 rcases huv with ⟨rfl,rfl,rfl⟩|⟨rfl,rfl,rfl⟩
 all_goals(
 go_enter func168,ntmps168
 go_wp2_with fail
 refine (ae hcmp).mono ?_
 rintro e w1 ⟨rfl,q,rfl⟩
 go_wp2_with fail
 refine (ae HO _ (by exact ae HY)).mono ?_
 rintro e w1 ⟨rfl,hw⟩
 obtain rfl:=hw.symm
 clear hw
 have A0:Hid (ziw w X Y Y (.slice (some ⟨b1,o1,none⟩) nx c1) (.slice (some ⟨b2,o2,none⟩) ny c2) (w.drewN q)) :=
  ⟨X,ae HX,ae HY,Nat.le_of_lt hle,Nat.le_refl _,rfl,(But.refl [] _).drewN q,fun h=>by rw[ae NY] at h;omega⟩
 go_wp2_with fail
 go_loopg [0,1] Y (fun k p1 p2 wr=>Hid (ziw w X Y k p1 p2 wr))
 case atStart=>exact A0
 case round =>(
 clear A0
 obtain⟨X',hs1,hs2,hYX,hXX,hg,hB,hP⟩:=ae hrel
 have hl1:=aw hXX
 have hl2:=aw hYX
 have HI:=af (And.intro hs1 (And.intro hs2 (And.intro hYX (And.intro hXX (And.intro hg (And.intro hB hP))))))
 rw[ae NX] at hl1
 by_cases hk2:2≤(wd 18446744073709551616 gk).length
 ·(
 have HL:=af (zhj w.heap.size _ _ X' gk wr (hP hk2) hk2 hYX (by omega) hB.size)
 obtain⟨a1,d1,rfl,-,-⟩:=hs1
 obtain⟨a2,d2,rfl,-,-⟩:=hs2
 clear hrel hg hB hP
 generalize (wd 18446744073709551616 X').length=m1 at *
 generalize (wd 18446744073709551616 gk).length=m2 at *
 go_wp2_with fail
 refine (ae HL).mono ?_
 rintro e w5 ⟨v1,v2,X2,Y2,rfl,hp2,hle2,hlt2,hX2,hg2,l,hlo,hbl⟩
 have R:Hid (ziw w X Y Y2 v1 v2 w5):=⟨X2,hp2.s1,hp2.s2,hle2,by omega,by rw[hg2];exact (ae HI).2.2.2.2.1,(ae HI).2.2.2.2.2.1.trans hbl (fun x hx=>.inr (hlo x hx)),fun _=>hp2⟩
 clear hp2 hg2 hlo hbl
 go_wp2
 go_roundg Y2
 case measure=>exact hlt2
 case rel=>exact R)
 ·(
 rcases Nat.eq_zero_or_pos gk with hz | hz
 ·(
 subst hz
 rw[Nat.gcd_zero_right] at hg
 rw[zq] at hs2
 obtain⟨a1,d1,rfl,-,-⟩:=id hs1
 obtain⟨a2,d2,rfl,-,-⟩:=hs2
 have R:=af (And.intro hs1 hB)
 have HG:=af hg
 clear hrel hg hB hP hs1 hk2 HI hl2
 generalize (wd 18446744073709551616 X').length=m1 at *
 go_wp2
 go_ret
 exact⟨_,rfl,by rw[← ae HG];exact (ae R).1,(ae R).2⟩)
 ·(
 have hkB:gk < 18446744073709551616:=by
  rcases Nat.lt_or_ge gk 18446744073709551616 with h | h
  ·exact h
  ·exact absurd (zdn gk h) hk2
 rcases zfc hs2 hkB with ⟨rfl,-⟩|⟨-,b,off,c,rfl,hcell⟩
 ·omega
 have HBY:=af (zgm _ X' gk wr hs1 (by omega) hz hkB)
 have hmB:X' % gk < 18446744073709551616:=Nat.lt_trans (Nat.mod_lt _ hz) hkB
 have GW:=af (fun W=>j3 gk (X' % gk) W hkB hmB)
 have hgB:Nat.gcd gk (X' % gk) < 18446744073709551616:=Nat.lt_of_le_of_lt (Nat.gcd_le_left _ hz) hkB
 have HG:Hid (Nat.gcd gk (X' % gk)=Nat.gcd X Y):=by show _=_;rw[zpq];exact hg
 have HOF:=af (fun W=>oq (Nat.gcd gk (X' % gk)) hgB W)
 obtain⟨a1,d1,rfl,-,-⟩:=id hs1
 have HB:=af hB
 clear hrel hg hB hP hs1 hs2 HI hl2
 generalize (wd 18446744073709551616 X').length=m1 at *
 go_wp2_with fail
 refine (ae HBY).mono ?_
 rintro e w5 ⟨v5,rfl,-,hb5⟩
 have hc5:=hb5.ag hcell (by simp)
 have HB5:=af hb5
 clear hb5 hcell
 go_wp2_with fail
 refine (ae GW _).mono ?_
 rintro e w6 ⟨rfl,q6,rfl⟩
 go_wp2_with fail
 refine (ae HOF _).mono ?_
 rintro e w7 ⟨v7,rfl,hv7,hb7,-⟩
 rw[ae HG] at hv7
 have R:=af (And.intro hv7 ((ae HB).trans' ((ae HB5).trans' (((But.refl [] _).drewN q6).trans' hb7))))
 clear hv7 hb7
 go_wp2
 go_ret
 exact⟨v7,rfl,(ae R).1,(ae R).2⟩))))))
theorem zdu (vx vy:Value) (X Y:Nat) (w:World) (hx:Sl .u64 w vx (wd 18446744073709551616 X)) (hy:Sl .u64 w vy (wd 18446744073709551616 Y)) (hlx:(wd 18446744073709551616 X).length≤1000000) (hly:(wd 18446744073709551616 Y).length≤1000000) :
   Calls prog 168 #[vx,vy] w fun e w'=>∃ v',e=.returned v'∧Sl .u64 w' v' (wd 18446744073709551616 (Nat.gcd X Y))∧But [] w w':=by(
 have hcmp:=kz vx vy X Y w hx hy (by omega) (by omega)
 have HX:=af hx
 have HY:=af hy
 rcases zbu X Y with ⟨hlt,hc⟩|⟨heq,hc⟩|⟨hgt,hc⟩
 ·(
 rw[hc] at hcmp
 rcases Nat.lt_or_ge 1 X with h1 | h1
 ·have:=zjj vy vx Y X w hy hx hlt h1 hly vx vy (-1) hcmp (.inr ⟨rfl,rfl,rfl⟩)
  rw[Nat.gcd_comm] at this
  exact this
 ·(
 have HC:=af hcmp
 have HO:=af (fun W (h:Sl .u64 W vx (wd 18446744073709551616 X))=>nu vx X W h (by omega) true)
 rcases Nat.eq_zero_or_pos X with h0 | h0
 ·(
 subst h0
 rw[Nat.gcd_zero_left]
 rw[zq] at hx
 obtain⟨a1,c1,rfl,-,-⟩:=hx
 obtain⟨a2,c2,rfl,-,-⟩:=hy
 clear hcmp hc HO
 generalize (wd 18446744073709551616 Y).length=ny at *
 go_enter func168,ntmps168
 go_wp2_with fail
 refine (ae HC).mono ?_
 rintro e w1 ⟨rfl,q,rfl⟩
 go_wp2
 go_ret
 exact⟨_,rfl,ae HY,(But.refl _ _).drewN q⟩)
 ·(
 have hX1:X=1:=by omega
 subst hX1
 rw[Nat.gcd_one_left]
 have hl1:(wd 18446744073709551616 1).length=1:=by rw[zdm 1 (by omega) (by omega)];rfl
 have HO1:=af (fun W h=>ae HO W h (by show true=_;rfl))
 obtain⟨a1,c1,rfl,-,-⟩:=hx
 obtain⟨a2,c2,rfl,-,-⟩:=hy
 clear hcmp hc HO
 rw[hl1] at *
 generalize (wd 18446744073709551616 Y).length=ny at *
 clear hl1
 go_enter func168,ntmps168
 go_wp2_with fail
 refine (ae HC).mono ?_
 rintro e w1 ⟨rfl,q,rfl⟩
 go_wp2_with fail
 refine (ae HO1 _ (by exact ae HX)).mono ?_
 rintro e w1 ⟨rfl,hw⟩
 obtain rfl:=hw.symm
 clear hw
 go_wp2
 go_ret
 exact⟨_,rfl,ae HX,(But.refl _ _).drewN q⟩)))
 ·(
 rw[hc] at hcmp
 have HC:=af hcmp
 subst heq
 rw[Nat.gcd_self]
 obtain⟨a1,c1,rfl,-,-⟩:=hx
 obtain⟨a2,c2,rfl,-,-⟩:=hy
 clear hcmp hc
 generalize (wd 18446744073709551616 X).length=nx at *
 go_enter func168,ntmps168
 go_wp2_with fail
 refine (ae HC).mono ?_
 rintro e w1 ⟨rfl,q,rfl⟩
 go_wp2
 go_ret
 exact⟨_,rfl,ae HX,(But.refl _ _).drewN q⟩)
 ·(
 rw[hc] at hcmp
 rcases Nat.lt_or_ge 1 Y with h1 | h1
 ·exact zjj vx vy X Y w hx hy hgt h1 hlx vx vy 1 hcmp (.inl ⟨rfl,rfl,rfl⟩)
 ·(
 have HC:=af hcmp
 have HO:=af (fun W (h:Sl .u64 W vy (wd 18446744073709551616 Y))=>nu vy Y W h (by omega) true)
 rcases Nat.eq_zero_or_pos Y with h0 | h0
 ·(
 subst h0
 rw[Nat.gcd_zero_right]
 rw[zq] at hy
 obtain⟨a1,c1,rfl,-,-⟩:=hx
 obtain⟨a2,c2,rfl,-,-⟩:=hy
 clear hcmp hc HO
 generalize (wd 18446744073709551616 X).length=nx at *
 go_enter func168,ntmps168
 go_wp2_with fail
 refine (ae HC).mono ?_
 rintro e w1 ⟨rfl,q,rfl⟩
 go_wp2
 go_ret
 exact⟨_,rfl,ae HX,(But.refl _ _).drewN q⟩)
 ·(
 have hX1:Y=1:=by omega
 subst hX1
 rw[Nat.gcd_one_right]
 have hl1:(wd 18446744073709551616 1).length=1:=by rw[zdm 1 (by omega) (by omega)];rfl
 have HO1:=af (fun W h=>ae HO W h (by show true=_;rfl))
 obtain⟨a1,c1,rfl,-,-⟩:=hx
 obtain⟨a2,c2,rfl,-,-⟩:=hy
 clear hcmp hc HO
 rw[hl1] at *
 generalize (wd 18446744073709551616 X).length=nx at *
 clear hl1
 go_enter func168,ntmps168
 go_wp2_with fail
 refine (ae HC).mono ?_
 rintro e w1 ⟨rfl,q,rfl⟩
 go_wp2_with fail
 refine (ae HO1 _ (by exact ae HY)).mono ?_
 rintro e w1 ⟨rfl,hw⟩
 obtain rfl:=hw.symm
 clear hw
 go_wp2
 go_ret
 exact⟨_,rfl,ae HY,(But.refl _ _).drewN q⟩))))
end Go.Proofs.YtagmkkiagjmimaaGreatDoor
