/- A whole number is divided by another one -/
import Derived.Laws.OwnMore
import Derived.Lib.AppendIntMem
import Derived.Test.YtagmkkiagjmimaaGreatDoorRN12f
import Derived.Test.YtagmkkiagjmimaaGreatDoorRN31
namespace Go.Proofs.YtagmkkiagjmimaaGreatDoor
open Go.Proofs.Tryz
open Go.RowKit
set_option maxHeartbeats 8000000
set_option maxRecDepth 100000
theorem zry (vx vy:Value) (X Y:Nat) (w:World) (hx:Sl .u64 w vx (wd 18446744073709551616 X)) (hy:Sl .u64 w vy (wd 18446744073709551616 Y)) (hY:0<Y) (hl:(wd 18446744073709551616 X).length<134217728) (hly:(wd 18446744073709551616 Y).length<134217728)
  (hD:2≤(wd 18446744073709551616 Y).length→Y≤X→fe (X*2^lz (zu Y)) (Y*2^lz (zu Y))) :
  Calls prog 189 #[vx,vy] w fun e w'=>∃ v1 v2,e=.returned (.tuple #[v1,v2])∧Sl .u64 w' v1 (wd 18446744073709551616 (X/Y))∧Sl .u64 w' v2 (wd 18446744073709551616 (X%Y))∧But [] w w'∧je w vx w' v2:=by(
have hcmp:=kz vx vy X Y w hx hy (by omega) (by omega)
rcases Nat.lt_or_ge X Y with hlt | hge
·(
rw[uw hlt] at hcmp
rw[Nat.div_eq_of_lt hlt,Nat.mod_eq_of_lt hlt,zh]
have HC:=af hcmp
have HX:=af hx
obtain⟨a1,c1,rfl,-,-⟩:=hx
obtain⟨a2,c2,rfl,-,-⟩:=hy
clear hcmp hD
generalize (wd 18446744073709551616 X).length=nx at *
generalize (wd 18446744073709551616 Y).length=ny at *
go_enter func189,ntmps189
go_wp2_with fail
refine (ae HC).mono ?_
rintro e w1 ⟨rfl,q,rfl⟩
go_wp2
go_ret2
exact⟨_,_,rfl,Sl.nil _ _,ae HX,(But.refl _ _).drewN q,je.self _ _ _⟩)
·(
have hc0:=zbp hge
generalize zo X Y=r at *
have hr:decide (r<0)=false:=by simp;omega
have HC:=af hcmp
have HX:=af hx
have HY:=af hy
rcases hy.open with ⟨e,-⟩|⟨hp,b2,o2,c2,rfl,hc2,-,hcell⟩
·rw[wu (by omega)] at e;omega
obtain⟨a1,c1,rfl,-,-⟩:=hx
by_cases h1:(wd 18446744073709551616 Y).length=1
·(
have hYB:Y < 18446744073709551616:=by
 have:=ak (B:=18446744073709551616) (by omega) Y 1 (by omega)
 rw[Nat.pow_one] at this
 exact this
have hc:=hcell 0 (by omega)
rw[Nat.add_zero,zdw Y hY hYB] at hc
simp only[List.getElem?_cons_zero,Option.getD_some] at hc
have HB:=af (fun (W:World) (h:Sl .u64 W (.slice a1 (wd 18446744073709551616 X).length c1) (wd 18446744073709551616 X))=>zhg _ X Y W h (by omega) hY hYB)
have hmod:X%Y < 18446744073709551616:=Nat.lt_trans (Nat.mod_lt _ hY) hYB
clear hcmp hD hcell hy
generalize hnx:(wd 18446744073709551616 X).length=nx at *
generalize hny:(wd 18446744073709551616 Y).length=ny at *
clear hnx hny
have e1:((ny:Int)==1)=true:=beq_iff_eq.2 (by omega)
have hp1:(0:Int)<(ny:Int):=by omega
have HE:=af h1
clear h1
go_enter func189,ntmps189
go_wp2_with fail
refine (ae HC).mono ?_
rintro e w1 ⟨rfl,q,rfl⟩
go_wp2_with fail
refine (ae HB _ (by exact ae HX)).mono ?_
rintro e w2 ⟨v1,rfl,hv1,hb2⟩
have B2:Hid (But [] w w2):=((But.refl [] _).drewN q).trans' hb2
have HV1:=af hv1
clear hb2 hv1
go_wp2_with fail
refine (ji (X%Y) hmod _).mono ?_
rintro e w3 ⟨v2,rfl,hv2,hb3,ho3⟩
have ALL:=af (And.intro ((ae HV1).ah hb3) (And.intro hv2 (And.intro ((ae B2).trans' hb3) (ho3.mono (ae B2).size))))
clear hv2 hb3 ho3
go_wp2
go_ret2
exact⟨v1,v2,rfl,(ae ALL).1,(ae ALL).2.1,(ae ALL).2.2.1,je.zfj (ae ALL).2.2.2⟩)
·(
obtain⟨t1,t2,-,-⟩:=zft Y hY
have hs:=(zaz (zu Y) t1 t2).1
have hDO:=hD (by omega) hge
have hct:=hcell ((wd 18446744073709551616 Y).length-1) (by omega)
have LZ:=af (fun W=>zfl (zu Y) t1 t2 W)
have hnl:=zvc Y hY
have hsl:=zqx X (lz (zu Y)) hs
rw[show (wd 18446744073709551616 Y)[(wd 18446744073709551616 Y).length-1]?.getD 0=zu Y from rfl] at hct
have HL1:=af (fun (W:World) (h:Sl .u64 W (.slice a1 (wd 18446744073709551616 X).length c1) (wd 18446744073709551616 X))=>zkq _ X (lz (zu Y)) W h (by omega) hs)
have HL2:=af (fun (W:World) (h:Sl .u64 W (.slice (some ⟨b2,o2,none⟩) (wd 18446744073709551616 Y).length c2) (wd 18446744073709551616 Y))=>zkq _ Y (lz (zu Y)) W h (by omega) hs)
have hz:0<2^lz (zu Y):=Nat.pow_pos (by omega)
have HDO:=af hDO
unfold fe at HDO
rw[Nat.mul_div_mul_right _ _ hz,Nat.mul_mod_mul_right] at HDO
have hrl:(wd 18446744073709551616 (X%Y*2^lz (zu Y))).length<1073741824:=by
 have:=zqx (X%Y) (lz (zu Y)) hs
 have h3:=au (Nat.mod_le X Y)
 omega
have HRR:=af (fun (v:Value) (W:World) (h:Sl .u64 W v (wd 18446744073709551616 (X%Y*2^lz (zu Y))))=>zrx v (X%Y*2^lz (zu Y)) (lz (zu Y)) W h hrl hs)
rw[Nat.mul_div_cancel _ hz] at HRR
clear hcmp hD hDO hcell hy hnl hsl hz
generalize lz (zu Y)=s at *
generalize zu Y=t at *
generalize hnx:(wd 18446744073709551616 X).length=nx at *
generalize hny:(wd 18446744073709551616 Y).length=ny at *
clear hnx hny
have e1:((ny:Int)==1)=false:=beq_eq_false_iff_ne.2 (by omega)
go_enter func189,ntmps189
go_wp2_with fail
refine (ae HC).mono ?_
rintro e w1 ⟨rfl,q,rfl⟩
go_wp2_with fail
refine (ae LZ _).mono ?_
rintro e w1 ⟨rfl,hw⟩
obtain rfl:=hw.symm
clear hw
go_wp2_with fail
refine (ae HL1 _ (by exact ae HX)).mono ?_
rintro e w2 ⟨v1,rfl,hv1,hb2,hp2⟩
have B2:Hid (But [] w w2):=((But.refl [] _).drewN q).trans' hb2
have HE1:Hid (je w (.slice a1 nx c1) w2 v1):=by
 rcases hp2 with rfl | ho
 ·exact je.self _ _ _
 ·exact (je.zfj ho).pre (Nat.le_refl _)
have HV1:=af hv1
clear hb2 hv1 hp2
go_wp2_with fail
refine (ae HL2 _ ((ae HY).ah (ae B2))).mono ?_
rintro e w3 ⟨v2,rfl,hv2,hb3,-⟩
have B3:Hid (But [] w w3):=(ae B2).trans' hb3
have HV2:=af hv2
have HV1':=af ((ae HV1).ah hb3)
have HE1':=af ((ae HE1).but (ae HV1) hb3)
clear hv2 hb3 HV1 HE1
go_wp2_with fail
refine (ae HDO v1 v2 _ (ae HV1') (ae HV2)).mono ?_
rintro e w4 ⟨v3,v4,rfl,hv3,hv4,hb4,he4⟩
have B4:Hid (But [] w w4):=(ae B3).trans' hb4
have H3:=af hv3
have H4:=af hv4
have HE4:=af ((ae HE1').trans (ae HV1') hb4 (ae B3).size he4)
clear hv3 hv4 hb4 he4 HE1'
go_wp2_with fail
refine (ae HRR v4 _ (ae H4)).mono ?_
rintro e w5 ⟨v5,rfl,hv5,hb5,hp5⟩
have HE5:je w (.slice a1 nx c1) w5 v5:=by
 rcases hp5 with rfl | ho
 ·exact (ae HE4).but (ae H4) hb5
 ·exact (je.zfj ho).pre (ae B4).size
have ALL:=af (And.intro ((ae H3).ah hb5) (And.intro hv5 (And.intro ((ae B4).trans' hb5) HE5)))
clear hv5 hb5 hp5 HE5 HE4
go_wp2
go_ret2
exact⟨v3,v5,rfl,(ae ALL).1,(ae ALL).2.1,(ae ALL).2.2.1,(ae ALL).2.2.2⟩)))
def Short (X _Y:Nat):Prop:=(wd 18446744073709551616 X).length≤1000000
theorem Short.of (X Y:Nat) (h:(wd 18446744073709551616 X).length≤1000000):Short X Y:=h
theorem zdf (vx vy:Value) (X Y:Nat) (w:World) (hx:Sl .u64 w vx (wd 18446744073709551616 X)) (hy:Sl .u64 w vy (wd 18446744073709551616 Y)) (hY:0<Y) (hl:(wd 18446744073709551616 X).length<134217728) (hly:(wd 18446744073709551616 Y).length<134217728) (hs:Short X Y) :
  Calls prog 189 #[vx,vy] w fun e w'=>∃ v1 v2,e=.returned (.tuple #[v1,v2])∧Sl .u64 w' v1 (wd 18446744073709551616 (X/Y))∧Sl .u64 w' v2 (wd 18446744073709551616 (X%Y))∧But [] w w'∧je w vx w' v2 :=
 zry vx vy X Y w hx hy hY hl hly (fun h2 hle=>by
  obtain⟨t1,t2,-,-⟩:=zft Y hY
  have hz:=(zaz (zu Y) t1 t2).1
  have h3:=zvc Y hY
  have h4:=zqx X (lz (zu Y)) hz
  have h5:=au hle
  unfold Short at hs
  exact zwc (wd 18446744073709551616 (X*2^lz (zu Y))).length _ _ (Nat.le_refl _) (by omega) (by omega))
theorem xq (vx vy:Value) (X Y:Nat) (w:World) (hx:Sl .u64 w vx (wd 18446744073709551616 X)) (hy:Sl .u64 w vy (wd 18446744073709551616 Y)) (hY:0<Y) (hl:(wd 18446744073709551616 X).length<134217728) (hly:(wd 18446744073709551616 Y).length<134217728) (hs:Short X Y) :
  Calls prog 170 #[vx,vy] w fun e w'=>∃ v1,e=.returned v1∧Sl .u64 w' v1 (wd 18446744073709551616 (X/Y))∧But [] w w':=by(
have HX:=af hx
have HQ:=af (zdf vx vy X Y w hx hy hY hl hly hs)
have HO:=af (fun r hr=>lv vy Y w hy (by omega) r hr)
obtain⟨a1,c1,rfl,-,-⟩:=hx
obtain⟨a2,c2,rfl,-,-⟩:=hy
clear hs
generalize (wd 18446744073709551616 X).length=nx at *
generalize (wd 18446744073709551616 Y).length=ny at *
by_cases h1:Y=1
·(
subst h1
rw[Nat.div_one]
go_enter func170,ntmps170
go_wp2_with fail
refine (ae HO true (by show true=_;simp)).mono ?_
rintro e w1 ⟨rfl,hw⟩
obtain rfl:=hw.symm
clear hw
go_wp2
go_ret
exact⟨_,rfl,ae HX,But.refl _ _⟩)
·(
go_enter func170,ntmps170
go_wp2_with fail
refine (ae HO false (by show false=_;simp[h1])).mono ?_
rintro e w1 ⟨rfl,hw⟩
obtain rfl:=hw.symm
clear hw
go_wp2_with fail
refine (ae HQ).mono ?_
rintro e w2 ⟨v1,v2,rfl,hv1,-,hb2,-⟩
have ALL:=af (And.intro hv1 hb2)
clear hv1 hb2
go_wp2
go_ret
exact⟨v1,rfl,(ae ALL).1,(ae ALL).2⟩))
structure qlv (w:World) (n m:Nat) (ds:List UInt8) (vb vx:Value) (wr:World):Prop where
 words:Sl .u64 wr vx (wd 18446744073709551616 m)
 own:wr.ownsRow w.heap.size 5 1 vb ds.length (ds.map u8v)
 but:But [] w wr
 dig:vw n=ds++vw m
 pos:0<n→0<m
 len:(wd 18446744073709551616 m).length<1048576
theorem zlk (base:Nat) (vo:Value) (ods:List UInt8) (v:Value) (X Wd:Nat) (w:World) (hv:Sl .u64 w v (wd 18446744073709551616 X)) (hX:0<X∨0<Wd) (hl:(wd 18446744073709551616 X).length<1048576) (hd:ods.length+(vw X).length+Wd<1073741000) (ho:w.ownsRow base 5 1 vo ods.length (ods.map u8v)) (hn:vo=.slice none 0 0∨0<ods.length) (hbase:base≤w.heap.size) :
  Calls prog 188 #[vo,v,.int .i64 (Wd:Int)] w fun e w'=>∃ v',e=.returned v'∧w'.ownsRow base 5 1 v' (ods++(jm Wd X).reverse).length ((ods++(jm Wd X).reverse).map u8v)∧Below base w w'∧yt w w':=by(
have HO:=af ho
have HN:=af hn
have HBS:=af hbase
obtain⟨oa,oc,rfl⟩:=iy ho
clear ho hn hbase
have HV:=af hv
clear hv
obtain⟨xa,xc,rfl,-,-⟩:=ae HV
have HX:=af hX
have HD:=af hd
clear hX hd
generalize hno:ods.length=no at *
have HNO:=af hno
clear hno
go_enter func188,ntmps188
go_wp2
go_loopg [7,1] X (fun m vb vx wr=>∃ ds:List UInt8,qlv w X m ds vb vx wr)
case atStart=>exact⟨[],⟨ae HV,World.ownsRow_nil _ _ _ _,But.refl _ _,rfl,fun h=>h,hl⟩⟩
case round =>(
obtain⟨ds,hI⟩:=hrel
rename World=>wr
obtain⟨hsl,hown,hbut,hdig,hpos,hlen⟩:=hI
have hdl:ds.length<1073741000:=by have:=congrArg List.length hdig;have h2:=ae HD;rw[List.length_append] at this;omega
have HSL:=af hsl
obtain⟨aa,ca,rfl,-,-⟩:=hsl
have HDG:=af hdig
have HOWN:=af hown
have HBUT:=af hbut
clear hdig hown hbut
by_cases hm:1<(wd 18446744073709551616 gk).length
·(
have h19:=qey hm
obtain⟨m',hm'⟩:∃ m',m'=gk/10000000000000000000:=⟨_,rfl⟩
obtain⟨r0,hr0⟩:∃ r0,r0=gk%10000000000000000000:=⟨_,rfl⟩
have hmp:0<m':=by omega
have hml:(wd 18446744073709551616 m').length≤(wd 18446744073709551616 gk).length:=au (by omega)
have BW:=af (zst _ gk 10000000000000000000 wr (ae HSL) (by omega) (by omega) (by omega))
rw[← hm',← hr0] at BW
have hDP:Hid (vw gk=iw 19 r0++vw m'):=by
 show _=_
 have h:=zjg 19 gk (by exact h19)
 rw[← zhv 19 gk] at h
 rw[hm',hr0]
 exact h
have hr0l:r0<10000000000000000000:=by omega
have hlt':m' < gk:=by rw[hm'];exact Nat.div_lt_self (by omega) (by omega)
have HML:=af hml
clear hm' hr0 hml h19
generalize hla:(wd 18446744073709551616 gk).length=la at *
clear hla
have hwl:Hid (0<(wd 18446744073709551616 m').length):=by show _<_;rw[Nat.pos_iff_ne_zero];intro e;rw[ze (by omega)] at e;omega
go_wp2_with fail
refine (ae BW).mono ?_
rintro e w2 ⟨v2,rfl,hv2,hb2,hf2⟩
have HV2:=af hv2
have HOWN2:=af (zav (ae HOWN) hb2)
have HBUT2:Hid (But [] w w2):=(ae HBUT).trans' hb2
have HOFF:Hid (qkf u7 v2):=fun k hk b off n c e=>by
 have h1:=((ae HOWN).lt k hk).2
 have h2:=hf2 b off n c e
 omega
clear hv2 hb2 hf2
go_wp2_with fail
go_loopw [7,8,18] (fun vb rest c wq=>∃ j q:Nat,j≤19∧c=.int .i64 j∧rest=.int .u64 q∧q<10000000000000000000∧Hid (q=r0/10^j∧wq.ownsRow w.heap.size 5 1 vb (ds++iw j r0).length ((ds++iw j r0).map u8v)∧But [] w wq∧Sl .u64 wq v2 (wd 18446744073709551616 m')∧qkf vb v2)) (fun _ _ c _=>19-(intOf c).toNat)
case atStart=>exact⟨0,r0,by omega,rfl,rfl,hr0l,by simp,by simpa [iw] using ae HOWN2,ae HBUT2,ae HV2,ae HOFF⟩
case round =>(
obtain⟨j,q,hj,rfl,rfl,hq,HI⟩:=hrel
rename World=>wq
by_cases hj19:j=19
·(
subst hj19
have HIK:=af (ae HI).2
clear HI
go_wp2
go_roundg m'
case measure=>exact hlt'
case rel =>(
obtain⟨k1,k2,k3,-⟩:=ae HIK
refine⟨ds++iw 19 r0,k3,k1,k2,?_,fun _=>hmp,by have:=ae HML;omega⟩
rw[ae HDG,ae hDP,List.append_assoc]))
·(
have hj2:j<19:=by omega
obtain⟨dg,hdg⟩:∃ dg,dg=q%10:=⟨_,rfl⟩
obtain⟨q',hq'⟩:∃ q',q'=q/10:=⟨_,rfl⟩
have hd10:dg<10:=by omega
have hq2:q' < 10000000000000000000:=by omega
have e1:(q:Int)%10=(dg:Int):=by omega
have e2:(q:Int)/10=(q':Int):=by omega
have e3:(q:Int).tmod 10=(dg:Int):=by rw[Int.tmod_eq_emod_of_nonneg (by omega)];exact e1
have e4:(q:Int).tdiv 10=(q':Int):=by rw[Int.tdiv_eq_ediv_of_nonneg (by omega)];exact e2
have hqj:Hid (q'=r0/10^(j+1)∧iw (j+1) r0=iw j r0++[UInt8.ofNat (48+dg)]):=by
 constructor
 ·rw[hq',(ae HI).1,Nat.div_div_eq_div_mul,Nat.pow_succ]
 ·rw[zpr,← (ae HI).1,← hdg]
have hld:(ds++iw j r0).length<1073741824:=by rw[List.length_append,zki];omega
have hAB:=zcy (wq.alloc (.cells #[.int .u8 (48+(dg:Int))] 5)) w.heap.size u7 (ds++iw j r0) ((ae HI).2.1.alloc _) ⟨wq.heap.size,0,none⟩ (UInt8.ofNat (48+dg)) (by rw[← zjb dg hd10];simp) hld (by have:=(ae HI).2.2.1.size;simp;omega)
obtain⟨v3,w3,hr3,ho3,hg3,hb3⟩:=hAB
have hB3:But [] w w3:=((ae HI).2.2.1.alloc _).grown hg3 (fun k hk=>((ae HI).2.1.lt k hk).1)
obtain⟨hS3,hO3⟩:=(ae HI).2.2.2.2.grow (ae HI).2.2.2.1 (ae hwl) hg3 hb3
have ALL:=af (And.intro ho3 (And.intro hB3 (And.intro hS3 hO3)))
have HR3:=af hr3
clear ho3 hB3 hS3 hO3 hg3 hb3 hr3 hld hdg hq'
go_wp2_with (at_builtin;refine jh rfl _ _ 185 185 rfl _ _ v3 w3 rfl rfl (ae HR3) ?_)
refine⟨⟨j+1,q',by omega,by go_num,rfl,hq2,(ae hqj).1,?_,(ae ALL).2.1,(ae ALL).2.2.1,(ae ALL).2.2.2⟩,?_⟩
·rw[(ae hqj).2,← List.append_assoc];exact (ae ALL).1
·simp[intOf];omega)))
·(
by_cases hg0:gk=0
·(
subst hg0
have HOWNt:=HOWN
have HBUTt:=HBUT
rw[zh,List.length_nil]
have hdg:=ae HDG
rw[rf,List.append_nil] at hdg
clear HSL hlen hpos hm HDG
have hE:vw X=ds:=hdg
clear hdg
have PAD0:Hid (wr.ownsRow w.heap.size 5 1 u7 (ds++List.replicate 0 48).length ((ds++List.replicate 0 48).map u8v)∧But [] w wr):=by
 rw[List.replicate_zero,List.append_nil];exact⟨ae HOWN,ae HBUT⟩
have HEX:=af hE
have hel2:ds.length+Wd<1073741000:=by have:=ae HD;rw[hE] at this;omega
clear hE
go_wp2_with fail
go_loopg [7] (Wd-ds.length) (fun k vb wp=>∃ j:Nat,j+k=Wd-ds.length∧Hid (wp.ownsRow w.heap.size 5 1 vb (ds++List.replicate j 48).length ((ds++List.replicate j 48).map u8v)∧But [] w wp))
case atStart=>exact⟨0,by omega,PAD0⟩
case round =>(
clear PAD0
obtain⟨j,hjk,HP⟩:=hrel
rename World=>wp
obtain⟨pa,pc,hpe⟩:=iy (ae HP).1
have hpl:(ds++List.replicate j 48).length=ds.length+j:=by rw[List.length_append,List.length_replicate]
by_cases hk0:gk=0
·(
subst hk0
have hfs:ds++List.replicate j (48:UInt8)=jm Wd X:=by rw[jm,ae HEX,show j=Wd-ds.length from by omega]
have hfl:0<(jm Wd X).length:=zly Wd X (ae HX)
have hown:=(ae HP).1
rw[hfs] at hown hpl
obtain⟨g,cg,hg7,hgb,hcg,hrow⟩:=zdk hown hfl
rw[hg7] at hpe
subst hg7
have HGB:=af hgb
have RV:=af (zke g cg ((jm Wd X).map UInt8.toNat) wp hrow (by simpa using hfl) (by rw[List.length_map];omega))
rw[List.length_map] at RV
have BUT:=af (ae HP).2
have hlw:(jm Wd X).length<1073741000:=by omega
have hwle:(Wd:Int)≤((jm Wd X).length:Int):=by omega
have HLW:Hid (no+(jm Wd X).length<1073741000):=by
 have h1:=ae HD
 have h2:=zcl Wd X
 show _<_
 omega
clear hown hrow hgb hcg HP hfs hfl hpe hpl hjk
generalize hne:(jm Wd X).length=ne at *
go_wp2_with fail
refine (ae RV).mono ?_
rintro e w4 ⟨rfl,hr4,hb4⟩
rw[← List.map_reverse] at hr4
obtain⟨i0,hi,hz0,hz1,hz2⟩:=zls
have hB4:But [] w w4:=(ae BUT).trans hb4 (fun x hx=>by simp at hx;subst hx;exact .inr (ae HGB))
have hO4:=zav (ae HO) hB4
have hbs:=ae HBS
have hlw2:=ae HLW
obtain⟨v5,w5,hr5,ho5,hg5,-⟩:=run_append_own (P:=prog) w4 base 185 185 5 i0 (.int .u8 0) 1 1 underlying185 hi hz0 hz1 hz2 rfl (by decide) (.slice oa no oc) no (ods.map u8v) hO4 ⟨g,0,none⟩ ne cg ((jm Wd X).reverse.map u8v) (by rw[List.length_map,List.length_reverse,hne,Nat.mul_one]) (zmr hr4) (fun u hu=>by obtain⟨x,-,rfl⟩:=List.mem_map.1 hu;rfl) (by unfold maxLen;omega) (by omega) (Nat.le_trans hbs hB4.size)
have hK:yt w w5:=(yt.zjk hB4).trans (znn (ods:=ods) (by rw[ae HNO];exact hO4) (by rw[ae HNO];exact ae HN) hg5)
have hBe:Below base w w5:=j5 (hB4.zdv hbs) (below_grown hO4 (Nat.le_trans hbs hB4.size) hg5)
have ALL:=af (And.intro ho5 (And.intro hBe hK))
have HR5:=af hr5
clear ho5 hBe hK hr5 hg5 hr4 hb4 hB4 hO4 hi hz0 hz1 hz2 hbs hlw2
go_wp2_with (at_builtin;refine jh rfl _ _ 185 185 rfl _ _ v5 w5 rfl rfl (ae HR5) ?_)
go_ret
refine⟨v5,rfl,?_,(ae ALL).2.1,(ae ALL).2.2⟩
rw[List.length_append,List.length_reverse,hne,ae HNO,List.map_append]
exact (ae ALL).1)
·(
have hAB:=zcy (wp.alloc (.cells #[.int .u8 48] 5)) w.heap.size u7 (ds++List.replicate j 48) ((ae HP).1.alloc _) ⟨wp.heap.size,0,none⟩ 48 (by simp[u8v]) (by omega) (by have:=(ae HP).2.size;simp;omega)
obtain⟨v3,w3,hr3,ho3,hg3,-⟩:=hAB
have hB3:But [] w w3:=((ae HP).2.alloc _).grown hg3 (fun k hk=>((ae HP).1.lt k hk).1)
rw[List.append_assoc,← List.replicate_succ'] at ho3
have ALL:=af (And.intro ho3 hB3)
rw[hpe] at hr3
have HR3:=af hr3
subst hpe
have hlt:((ds++List.replicate j (48:UInt8)).length:Int)<(Wd:Int):=by omega
have hrl:j+1+(gk-1)=Wd-ds.length:=by omega
have HRL:=af hrl
clear ho3 hB3 hg3 hr3 hjk hpl HP hrl
generalize (ds++List.replicate j (48:UInt8)).length=np at *
go_wp2_with (at_builtin;refine jh rfl _ _ 185 185 rfl _ _ v3 w3 rfl rfl (ae HR3) ?_)
go_roundg (gk-1)
case measure=>omega
case rel=>exact⟨j+1,ae HRL,ae ALL⟩)))
have hpos:0<gk:=by omega
have hl1:(wd 18446744073709551616 gk).length=1:=by
 have:(wd 18446744073709551616 gk).length≠0:=by intro e;rw[ze (by omega)] at e;omega
 omega
have hgB:gk < 18446744073709551616:=by
 have:=ak (B:=18446744073709551616) (by omega) gk 1 (by omega)
 rw[Nat.pow_one] at this;exact this
have hcell:∃ b off,aa=some ⟨b,off,none⟩∧wr.cell? ⟨b,off,none⟩=some (.int .u64 (gk:Int)):=by
 rcases (ae HSL).open with ⟨e,-⟩|⟨-,b,off,c,e,-,-,hc⟩
 ·rw[e] at hl1;simp at hl1
 ·simp only[Value.slice.injEq] at e
  have h:=hc 0 (by omega)
  rw[Nat.add_zero,zdw gk hpos hgB] at h
  exact⟨b,off,e.1,h⟩
obtain⟨b,off,rfl,hc0⟩:=hcell
have HCUR:=af hpos
rw[hl1]
clear hm hl1 hlen HSL
go_wp2
go_loopg [7,9] gk (fun m vb rest wq=>∃ es:List UInt8,rest=.int .u64 (m:Int)∧m < 18446744073709551616∧Hid (vw X=es++vw m∧wq.ownsRow w.heap.size 5 1 vb es.length (es.map u8v)∧But [] w wq))
case atStart=>exact⟨ds,rfl,hgB,ae HDG,ae HOWN,ae HBUT⟩
case round =>(
obtain⟨es,rfl,hmB,HI⟩:=hrel
rename World=>wq
clear hc0
have hel:es.length<1073741000:=by have:=congrArg List.length (ae HI).1;have h2:=ae HD;rw[List.length_append] at this;omega
by_cases h0:gk=0
·(
subst h0
have hE0:vw X=es:=by have:=(ae HI).1;rw[rf,List.append_nil] at this;exact this
have hE:vw X=es:=hE0
clear hE0
have PAD0:Hid (wq.ownsRow w.heap.size 5 1 u7 (es++List.replicate 0 48).length ((es++List.replicate 0 48).map u8v)∧But [] w wq):=by
 rw[List.replicate_zero,List.append_nil];exact⟨(ae HI).2.1,(ae HI).2.2⟩
have HEX:=af hE
have hel2:es.length+Wd<1073741000:=by have:=ae HD;rw[hE] at this;omega
clear hE
go_wp2_with fail
go_loopg [7] (Wd-es.length) (fun k vb wp=>∃ j:Nat,j+k=Wd-es.length∧Hid (wp.ownsRow w.heap.size 5 1 vb (es++List.replicate j 48).length ((es++List.replicate j 48).map u8v)∧But [] w wp))
case atStart=>exact⟨0,by omega,PAD0⟩
case round =>(
clear PAD0
obtain⟨j,hjk,HP⟩:=hrel
rename World=>wp
obtain⟨pa,pc,hpe⟩:=iy (ae HP).1
have hpl:(es++List.replicate j 48).length=es.length+j:=by rw[List.length_append,List.length_replicate]
by_cases hk0:gk=0
·(
subst hk0
have hfs:es++List.replicate j (48:UInt8)=jm Wd X:=by rw[jm,ae HEX,show j=Wd-es.length from by omega]
have hfl:0<(jm Wd X).length:=zly Wd X (ae HX)
have hown:=(ae HP).1
rw[hfs] at hown hpl
obtain⟨g,cg,hg7,hgb,hcg,hrow⟩:=zdk hown hfl
rw[hg7] at hpe
subst hg7
have HGB:=af hgb
have RV:=af (zke g cg ((jm Wd X).map UInt8.toNat) wp hrow (by simpa using hfl) (by rw[List.length_map];omega))
rw[List.length_map] at RV
have BUT:=af (ae HP).2
have hlw:(jm Wd X).length<1073741000:=by omega
have hwle:(Wd:Int)≤((jm Wd X).length:Int):=by omega
have HLW:Hid (no+(jm Wd X).length<1073741000):=by
 have h1:=ae HD
 have h2:=zcl Wd X
 show _<_
 omega
clear hown hrow hgb hcg HP hfs hfl hpe hpl hjk
generalize hne:(jm Wd X).length=ne at *
go_wp2_with fail
refine (ae RV).mono ?_
rintro e w4 ⟨rfl,hr4,hb4⟩
rw[← List.map_reverse] at hr4
obtain⟨i0,hi,hz0,hz1,hz2⟩:=zls
have hB4:But [] w w4:=(ae BUT).trans hb4 (fun x hx=>by simp at hx;subst hx;exact .inr (ae HGB))
have hO4:=zav (ae HO) hB4
have hbs:=ae HBS
have hlw2:=ae HLW
obtain⟨v5,w5,hr5,ho5,hg5,-⟩:=run_append_own (P:=prog) w4 base 185 185 5 i0 (.int .u8 0) 1 1 underlying185 hi hz0 hz1 hz2 rfl (by decide) (.slice oa no oc) no (ods.map u8v) hO4 ⟨g,0,none⟩ ne cg ((jm Wd X).reverse.map u8v) (by rw[List.length_map,List.length_reverse,hne,Nat.mul_one]) (zmr hr4) (fun u hu=>by obtain⟨x,-,rfl⟩:=List.mem_map.1 hu;rfl) (by unfold maxLen;omega) (by omega) (Nat.le_trans hbs hB4.size)
have hK:yt w w5:=(yt.zjk hB4).trans (znn (ods:=ods) (by rw[ae HNO];exact hO4) (by rw[ae HNO];exact ae HN) hg5)
have hBe:Below base w w5:=j5 (hB4.zdv hbs) (below_grown hO4 (Nat.le_trans hbs hB4.size) hg5)
have ALL:=af (And.intro ho5 (And.intro hBe hK))
have HR5:=af hr5
clear ho5 hBe hK hr5 hg5 hr4 hb4 hB4 hO4 hi hz0 hz1 hz2 hbs hlw2
go_wp2_with (at_builtin;refine jh rfl _ _ 185 185 rfl _ _ v5 w5 rfl rfl (ae HR5) ?_)
go_ret
refine⟨v5,rfl,?_,(ae ALL).2.1,(ae ALL).2.2⟩
rw[List.length_append,List.length_reverse,hne,ae HNO,List.map_append]
exact (ae ALL).1)
·(
have hAB:=zcy (wp.alloc (.cells #[.int .u8 48] 5)) w.heap.size u7 (es++List.replicate j 48) ((ae HP).1.alloc _) ⟨wp.heap.size,0,none⟩ 48 (by simp[u8v]) (by omega) (by have:=(ae HP).2.size;simp;omega)
obtain⟨v3,w3,hr3,ho3,hg3,-⟩:=hAB
have hB3:But [] w w3:=((ae HP).2.alloc _).grown hg3 (fun k hk=>((ae HP).1.lt k hk).1)
rw[List.append_assoc,← List.replicate_succ'] at ho3
have ALL:=af (And.intro ho3 hB3)
rw[hpe] at hr3
have HR3:=af hr3
subst hpe
have hlt:((es++List.replicate j (48:UInt8)).length:Int)<(Wd:Int):=by omega
have hrl:j+1+(gk-1)=Wd-es.length:=by omega
have HRL:=af hrl
clear ho3 hB3 hg3 hr3 hjk hpl HP hrl
generalize (es++List.replicate j (48:UInt8)).length=np at *
go_wp2_with (at_builtin;refine jh rfl _ _ 185 185 rfl _ _ v3 w3 rfl rfl (ae HR3) ?_)
go_roundg (gk-1)
case measure=>omega
case rel=>exact⟨j+1,ae HRL,ae ALL⟩)))
·(
have hp:0<gk:=by omega
obtain⟨dg,hdg⟩:∃ dg,dg=gk%10:=⟨_,rfl⟩
obtain⟨q',hq'⟩:∃ q',q'=gk/10:=⟨_,rfl⟩
have hd10:dg<10:=by omega
have hq2:q' < 18446744073709551616:=by omega
have hlt':q' < gk:=by omega
have e0:((gk:Int) != 0)=true:=by simp;omega
have e1:(gk:Int)%10=(dg:Int):=by omega
have e2:(gk:Int)/10=(q':Int):=by omega
have e3:(gk:Int).tmod 10=(dg:Int):=by rw[Int.tmod_eq_emod_of_nonneg (by omega)];exact e1
have e4:(gk:Int).tdiv 10=(q':Int):=by rw[Int.tdiv_eq_ediv_of_nonneg (by omega)];exact e2
have hqj:Hid (vw X=(es++[UInt8.ofNat (48+dg)])++vw q'):=by
 show _=_
 rw[(ae HI).1,ui hp,← hdg,← hq',List.append_assoc];rfl
have hAB:=zcy (wq.alloc (.cells #[.int .u8 (48+(dg:Int))] 5)) w.heap.size u7 es ((ae HI).2.1.alloc _) ⟨wq.heap.size,0,none⟩ (UInt8.ofNat (48+dg)) (by rw[← zjb dg hd10];simp) (by omega) (by have:=(ae HI).2.2.size;simp;omega)
obtain⟨v3,w3,hr3,ho3,hg3,-⟩:=hAB
have hB3:But [] w w3:=((ae HI).2.2.alloc _).grown hg3 (fun k hk=>((ae HI).2.1.lt k hk).1)
have ALL:=af (And.intro ho3 hB3)
have HR3:=af hr3
clear ho3 hB3 hg3 hr3 hdg hq'
go_wp2_with (at_builtin;refine jh rfl _ _ 185 185 rfl _ _ v3 w3 rfl rfl (ae HR3) ?_)
go_roundg q'
case measure=>exact hlt'
case rel=>exact⟨_,rfl,hq2,ae hqj,(ae ALL).1,(ae ALL).2⟩)))))
def zx (j:Nat):Nat:=10^(608*2^j)
theorem zpk:zx 0=10^608:=by unfold zx;rw[Nat.pow_zero,Nat.mul_one]
theorem zfu (j:Nat):zx (j+1)=zx j*zx j:=by
 unfold zx
 rw[← Nat.pow_add,Nat.pow_succ,← Nat.mul_two,Nat.mul_assoc]
theorem zme (j:Nat):0<zx j:=Nat.pow_pos (by omega)
theorem qko (j:Nat):j<zx j:=by(
unfold zx
have h1:j<2^j:=Nat.lt_two_pow_self
have h2:608*2^j<10^(608*2^j):=Nat.lt_pow_self (by omega)
omega)
theorem zmf (X j n:Nat) (hl:(wd 18446744073709551616 X).length≤n) (h:zx j≤X):1824*2^j<64*n:=by(
have h1:X < 18446744073709551616^n:=ak (by omega) X _ hl
have h2:(2:Nat)^(1824*2^j)≤zx j:=by
 unfold zx
 have e:(2:Nat)^(1824*2^j)=(2^3)^(608*2^j):=by rw[← Nat.pow_mul,← Nat.mul_assoc]
 rw[e]
 exact Nat.pow_le_pow_left (by omega) _
have h3:(18446744073709551616:Nat)^n=2^(64*n):=by rw[Nat.pow_mul]
rw[h3] at h1
have h4:(2:Nat)^(1824*2^j)<2^(64*n):=Nat.lt_of_le_of_lt h2 (Nat.lt_of_le_of_lt h h1)
exact (Nat.pow_lt_pow_iff_right (by omega:1<2)).1 h4)
theorem qil:∃ i,prog.info? 103 = some i∧i.zero=some (.slice none 0 0)∧i.size=1∧i.bytes=24:=by(
have h:(prog.info? 103).map (fun i=>(i.zero,i.size,i.bytes))=some (some (.slice none 0 0),1,24):=by kernel_rfl
obtain⟨i,hi,he⟩:=Option.map_eq_some_iff.1 h
simp only[Prod.mk.injEq] at he
exact⟨i,hi,he.1,he.2.1,he.2.2⟩)
theorem zoz {w w':World} {base:Nat} {e:TypeId} {vo:Value} {n:Nat} {xs:List Value} (ho:w.ownsRow base e 1 vo n xs) (hn:vo=.slice none 0 0∨∃ u,xs[0]? = some u∧∀ m:Int,u≠.int .u64 m) (hg:w.grownBy w' vo.ownBlock):yt w w':=by(
intro v ws hs
cases hb:vo.ownBlock with
| none=>rw[hb] at hg;exact hs.ah (uo hg)
| some g =>
 rw[hb] at hg
 rcases hn with rfl|⟨u,hu,hne⟩
 ·simp[Value.ownBlock] at hb
 ·have hc:=ho.cells hb 0 u hu
  rw[show (⟨g,0,none⟩:Addr).add 0=⟨g,0,none⟩ from by simp[Addr.add]] at hc
  exact hs.over (zge hg) hc hne)
structure zcz (w:World) (X:Nat) (us:List Value) (vo vp:Value) (wr:World):Prop where
 own:wr.ownsRow w.heap.size 103 1 vo us.length us
 all:∀ j u,us[j]? = some u→Sl .u64 wr u (wd 18446744073709551616 (zx j))
 pow:Sl .u64 wr vp (wd 18446744073709551616 (zx us.length))
 but:But [] w wr
 low:∀ j,j<us.length→zx j≤X
 nil:vo=.slice none 0 0∨0<us.length
theorem zcz.le {w:World} {X:Nat} {us:List Value} {vo vp:Value} {wr:World} (h:zcz w X us vo vp wr):us.length≤X:=by(
rcases Nat.eq_zero_or_pos us.length with h0 | h0
·omega
·have h1:=h.low (us.length-1) (by omega)
 have h2:=qko (us.length-1)
 omega)
theorem zcz.first {w:World} {X:Nat} {us:List Value} {vo vp:Value} {wr:World} (h:zcz w X us vo vp wr):vo=.slice none 0 0∨∃ u,us[0]? = some u∧∀ m:Int,u≠.int .u64 m:=by(
rcases h.nil with h0 | h0
·exact .inl h0
·(
refine .inr ⟨us[0],List.getElem?_eq_getElem h0,fun m e=>?_⟩
have:=h.all 0 us[0] (List.getElem?_eq_getElem h0)
rw[e] at this
obtain⟨a,c,h1,-⟩:=this
simp at h1))
theorem zcz.drewN {w:World} {X:Nat} {us:List Value} {vo vp:Value} {wr:World} (h:zcz w X us vo vp wr) (q:Nat):zcz w X us vo vp (wr.drewN q) :=
 ⟨zav h.own ((But.refl [] _).drewN q),fun j u hj=>(h.all j u hj).ah ((But.refl [] _).drewN q),h.pow.ah ((But.refl [] _).drewN q),h.but.drewN q,h.low,h.nil⟩
theorem zcz.qru {w:World} {X:Nat} {us:List Value} {vo vp:Value} {wr:World} (h:zcz w X us vo vp wr):(wd 18446744073709551616 (zx us.length)).length≤(wd 18446744073709551616 X).length+(wd 18446744073709551616 X).length+33:=by(
rcases Nat.eq_zero_or_pos us.length with h0 | h0
·rw[h0,zpk]
 have:=aj (B:=18446744073709551616) (by omega) _ _ qex
 omega
·(
obtain⟨j,hj⟩:∃ j,us.length=j+1:=⟨us.length-1,by omega⟩
have h1:=au (h.low j (by omega))
have h2:=qy (zx j) (zx j)
rw[hj,zfu]
omega))
theorem zcz.more {w:World} {X:Nat} {us:List Value} {vo vp:Value} {wr:World} (h:zcz w X us vo vp wr) (hle:zx us.length≤X) (hul:us.length<35088) (W:World) (hW:W=wr.alloc (.cells #[vp] 103)) :
  ∃ v3 w3,(Builtin.append_ #[187,187] 187 #[vo,.slice (some ⟨wr.heap.size,0,none⟩) 1 1]).run prog W=.ok v3 w3∧w3.ownsRow w.heap.size 103 1 v3 (us++[vp]).length (us++[vp])∧(∀ j u,(us++[vp])[j]? = some u→Sl .u64 w3 u (wd 18446744073709551616 (zx j)))∧Sl .u64 w3 vp (wd 18446744073709551616 (zx us.length))∧But [] w w3∧(∀ j,j<(us++[vp]).length→zx j≤X)∧yt wr w3:=by(
obtain⟨i0,hi,hz0,hz1,hz2⟩:=qil
subst hW
have hp1:vp.oneCell'=true:=by
 obtain⟨a,c,rfl,-⟩:=h.pow
 rfl
have hc:(wr.alloc (.cells #[vp] 103)).cell? ⟨wr.heap.size,0,none⟩=some vp:=by simp
have hbs:=h.but.size
obtain⟨v3,w3,hr,ho,hg,-⟩:=run_append_own (P:=prog) (wr.alloc (.cells #[vp] 103)) w.heap.size 187 187 103 i0 (.slice none 0 0) 1 24 underlying187 hi hz0 hz1 hz2 rfl (by decide) vo us.length us (h.own.alloc _) ⟨wr.heap.size,0,none⟩ 1 1 [vp] rfl (fun j u hj=>by
 cases j with
 | zero=>simp at hj;subst hj;rw[show (⟨wr.heap.size,0,none⟩:Addr).add 0=⟨wr.heap.size,0,none⟩ from by simp[Addr.add]];exact hc
 | succ j=>simp at hj) (fun u hu=>by simp at hu;subst hu;exact hp1) (by unfold maxLen;omega) (by omega) (by simp;omega)
have hK:yt wr w3:=(yt.zjk ((But.refl [] wr).alloc _)).trans (zoz (h.own.alloc _) h.first hg)
refine⟨v3,w3,hr,by rw[List.length_append];exact ho,fun j u hj=>?_,hK _ _ h.pow,(h.but.alloc _).grown hg (fun k hk=>(h.own.lt k hk).1),fun j hj=>?_,hK⟩
·(
rcases Nat.lt_or_ge j us.length with hl | hl
·rw[List.getElem?_append_left hl] at hj
 exact hK _ _ (h.all j u hj)
·(
have he:j=us.length:=by
 have:=(List.getElem?_eq_some_iff.1 hj).1
 simp at this
 omega
subst he
simp at hj
subst hj
exact hK _ _ h.pow))
·simp at hj
 rcases Nat.lt_or_ge j us.length with hl | hl
 ·exact h.low j hl
 ·rw[show j=us.length from by omega];exact hle)
theorem zor (v:Value) (X:Nat) (w:World) (hv:Sl .u64 w v (wd 18446744073709551616 X)) (hl:(wd 18446744073709551616 X).length≤1000000) :
  Calls prog 144 #[v] w fun e w'=>∃ vo us,e=.returned vo∧w'.ownsRow w.heap.size 103 1 vo us.length us∧(∀ j u,us[j]? = some u→Sl .u64 w' u (wd 18446744073709551616 (zx j)))∧But [] w w'∧(∀ j,j<us.length→zx j≤X)∧X<zx us.length:=by(
have h10:(wd 18446744073709551616 (10^608)).length≤33:=aj (by omega) _ _ qex
have h1:(wd 18446744073709551616 10).length≤1:=aj (by omega) _ _ (by omega)
have PW:Hid (∀ (v1:Value) (W:World),Sl .u64 W v1 (wd 18446744073709551616 10)→Calls prog 190 #[v1,.int .i64 608] W fun e w'=>∃ v',e=.returned v'∧Sl .u64 w' v' (wd 18446744073709551616 (zx 0))∧But [] W w'):=fun v1 W h=>by
 rw[zpk]
 exact zng v1 10 608 W h (by omega) (by omega) (Nat.lt_of_le_of_lt (Nat.add_le_add h1 h10) (by omega))
have HV:=af hv
have HLX:=af hl
clear hv h10 h1 hl
obtain⟨xa,xc,rfl,-,-⟩:=ae HV
generalize hnx:(wd 18446744073709551616 X).length=nx at *
have NX:=af hnx
clear hnx
go_enter func144,ntmps144
go_wp2_with fail
refine (ji 10 (by omega) _).mono ?_
rintro e w1 ⟨v1,rfl,hv1,hb1,-⟩
have H1:=af hv1
have B1:=af hb1
clear hv1 hb1
go_wp2_with fail
refine (ae PW v1 _ (ae H1)).mono ?_
rintro e w2 ⟨v2,rfl,hv2,hb2⟩
have A0:Hid (∃ us,zcz w X us (.slice none 0 0) v2 w2∧X+1+us.length=X+1 ):=⟨[],⟨World.ownsRow_nil _ _ _ _,fun j u h=>by simp at h,hv2,(ae B1).trans' hb2,fun j h=>by simp at h,.inl rfl⟩,by simp⟩
clear hv2 hb2 B1 H1 PW
go_wp2_with fail
go_loopg [3,4] (X+1) (fun k vo vp wr=>Hid (∃ us,zcz w X us vo vp wr∧k+us.length=X+1))
case atStart=>exact A0
case round =>(
clear A0
obtain⟨us,hI,hk⟩:=ae hrel
clear hrel
rename World=>wr
obtain⟨oa,oc,hoe⟩:=iy hI.own
have hpl:=hI.qru
rw[ae NX] at hpl
have hlx:=ae HLX
have CM:=af (kz _ _ (zx us.length) X wr hI.pow ((ae HV).ah hI.but) (by omega) (by rw[ae NX];omega))
obtain⟨pa,pc,hpe,-,-⟩:=id hI.pow
rcases Nat.lt_or_ge X (zx us.length) with hlt | hge
·(
have hc:zo (zx us.length) X=1:=by
 rcases zcg (zx us.length) X with ⟨h,-⟩|⟨h,-⟩|⟨-,h⟩
 ·omega
 ·omega
 ·exact h
rw[hc] at CM
have FIN:=af (And.intro hI (And.intro hlt hoe))
subst hoe hpe
clear hI hpl hlt hc hk
generalize (wd 18446744073709551616 (zx us.length)).length=np at *
go_wp2_with fail
refine (ae CM).mono ?_
rintro e w3 ⟨rfl,q,rfl⟩
go_wp2
go_ret
exact⟨_,us,rfl,(ae FIN).1.own,(ae FIN).1.all,(ae FIN).1.but.drewN q,(ae FIN).1.low,(ae FIN).2.1⟩)
·(
have hc:zo (zx us.length) X≤0:=by
 rcases zcg (zx us.length) X with ⟨-,h⟩|⟨-,h⟩|⟨h,-⟩
 ·omega
 ·omega
 ·omega
generalize zo (zx us.length) X=r at *
have hr:decide (r≤0)=true:=by simp;omega
have hL:us.length≤X:=hI.le
have h35:=zmf X us.length nx (by rw[ae NX];exact Nat.le_refl _) hge
have hul:us.length<35088:=Nat.lt_trans Nat.lt_two_pow_self (by omega)
have HI:=af hI
have HR:=af (And.intro hk (And.intro hL hge))
obtain⟨np,hnp⟩:∃ np,np=(wd 18446744073709551616 (zx us.length)).length:=⟨_,rfl⟩
have NP:=af hnp
rw[← hnp] at hpe hpl
have hnp0:0<np:=by
 rw[hnp,Nat.pos_iff_ne_zero];intro e;rw[ze (by omega)] at e
 have:=zme us.length
 omega
have MO:=af (fun q=>(hI.drewN q).more hge hul _ rfl)
have MU:=af (fun W (h:Sl .u64 W u4 (wd 18446744073709551616 (zx us.length)))=>jd u4 u4 _ _ W h h (by rw[← hnp];omega))
rw[← zfu] at MU
clear hI hk hL hge h35 hnp hc
have SH:=af hoe
generalize us.length=L at hoe hul
subst hoe hpe
have hmul:wrap64 (2*(np:Int))=2*(np:Int):=by unfold wrap64;omega
go_wp2_with fail
refine (ae CM).mono ?_
rintro e w3 ⟨rfl,q,rfl⟩
obtain⟨v3,w3,hr3,ho3,ha3,hs3,hb3,hl3,hk3⟩:=ae MO q
have HR3:=af hr3
have AL:=af (And.intro ho3 (And.intro ha3 (And.intro hs3 (And.intro hb3 hl3))))
clear hr3 ho3 ha3 hs3 hb3 hl3 hk3 MO
by_cases hbr:nx<2*np-1
·(
have hbi:(nx:Int)<2*(np:Int)-1:=by omega
have FIN:Hid (X<zx (us++[Value.slice pa np pc]).length):=by
 have h1:X < 18446744073709551616^nx:=ak (by omega) X _ (Nat.le_of_eq (ae NX))
 have h2:18446744073709551616^(np-1)≤zx us.length:=by
  rcases Nat.lt_or_ge (zx us.length) (18446744073709551616^(np-1)) with h | h
  ·have:=aj (B:=18446744073709551616) (by omega) _ _ h
   rw[← ae NP] at this
   omega
  ·exact h
 show _<_
 rw[List.length_append,List.length_singleton,zfu]
 refine Nat.lt_of_lt_of_le h1 (Nat.le_trans ?_ (Nat.mul_le_mul h2 h2))
 rw[← Nat.pow_add]
 exact Nat.pow_le_pow_right (by omega) (by omega)
clear HI MU CM HR NP SH
go_wp2_with (at_builtin;refine jh rfl _ _ 187 187 rfl _ _ v3 w3 rfl rfl (ae HR3) ?_)
go_ret
exact⟨v3,_,rfl,(ae AL).1,(ae AL).2.1,(ae AL).2.2.2.1,(ae AL).2.2.2.2,ae FIN⟩)
·(
have hbi:¬ ((nx:Int)<2*(np:Int)-1):=by omega
clear CM
go_wp2_with (at_builtin;refine jh rfl _ _ 187 187 rfl _ _ v3 w3 rfl rfl (ae HR3) ?_)
go_wp2_with fail
refine (ae MU _ (ae AL).2.2.1).mono ?_
rintro e w4 ⟨v4,rfl,hv4,hb4,-⟩
have R:Hid (∃ us',zcz w X us' v3 v4 w4∧gk-1+us'.length=X+1):=by
 refine⟨_,⟨zav (ae AL).1 hb4,fun j u hj=>((ae AL).2.1 j u hj).ah hb4,?_,(ae AL).2.2.2.1.trans' hb4,(ae AL).2.2.2.2,.inr (by simp)⟩,?_⟩
 ·rw[List.length_append,List.length_singleton];exact hv4
 ·have:=ae HR
  rw[List.length_append,List.length_singleton]
  omega
have GK:Hid (0<gk):=by have:=ae HR;show _<_;omega
clear hv4 hb4 AL HI HR MU NP
go_wp2
go_roundg (gk-1)
case measure=>have:=ae GK;omega
case rel=>exact ae R))))
theorem TabIs.but {w w':World} (h:Lib.TabIs prog w "internal/strconv.uint64pow10" .u64 Lib.pow10Tab) (hb:But [] w w'):Lib.TabIs prog w' "internal/strconv.uint64pow10" .u64 Lib.pow10Tab :=
 Go.Lib.tabBelow_of_tabIs h w' hb.below
structure Powers (w:World) (vp:Value) (us:List Value):Prop where
 form:∃ a c,vp=.slice a us.length c∧us.length≤c∧∀ j u,us[j]? = some u→∃ g o,a=some ⟨g,o,none⟩∧g<w.heap.size∧w.cell? ⟨g,o+j,none⟩=some u
 all:∀ j u,us[j]? = some u→Sl .u64 w u (wd 18446744073709551616 (zx j))
theorem qbx {w:World} {base:Nat} {vp:Value} {us:List Value} (h:w.ownsRow base 103 1 vp us.length us) (ha:∀ j u,us[j]? = some u→Sl .u64 w u (wd 18446744073709551616 (zx j))):Powers w vp us:=by(
refine⟨?_,ha⟩
rcases h.2 with ⟨rfl,h0⟩|⟨g,cap,cur,rfl,h2,h3,h4,-⟩
·exact⟨none,0,by rw[h0],by omega,fun j u hj=>by have:=(List.getElem?_eq_some_iff.1 hj).1;omega⟩
·refine⟨_,cap,rfl,h4,fun j u hj=>⟨g,0,rfl,(h.lt g rfl).2,?_⟩⟩
 have:=h.cells (g:=g) rfl j u hj
 rw[addr_add] at this
 exact this)
def zsz (L:Nat):Prop:=∀ (base:Nat) (w0:World) (vp:Value) (us:List Value) (vo:Value) (ods:List UInt8) (v:Value) (X Wd:Nat) (w:World),base=w0.heap.size→Powers w0 vp us→us.length=L→Below base w0 w →
 Sl .u64 w v (wd 18446744073709551616 X)→X<zx L→(Wd=0∧0<X∨Wd=608*2^L)→(wd 18446744073709551616 X).length≤1000000→ods.length+(vw X).length+2*(608*2^L)<1073741000→w.ownsRow base 5 1 vo ods.length (ods.map u8v)→(vo=.slice none 0 0∨0<ods.length)→(∀ j u,us[j]? = some u→Sl .u64 w u (wd 18446744073709551616 (zx j))) →
 Calls prog 143 #[vo,v,.int .i64 (Wd:Int),vp] w fun e w'=>∃ v',e=.returned v'∧w'.ownsRow base 5 1 v' (ods++(jm Wd X).reverse).length ((ods++(jm Wd X).reverse).map u8v)∧Below base w w'∧yt w w'
theorem zll:zsz 0:=by(
intro base w0 vp us vo ods v X Wd w hbase hP hL hB hv hX hW hl hd ho hn _
have hbs:base≤w.heap.size:=by rw[hbase];exact hB.size
have h608:608*2^0=608:=by decide
rw[h608] at hW hd
have AS:=af (zlk base vo ods v X Wd w hv (by rcases hW with h | h <;> omega) (by omega) (by rcases hW with h | h <;> omega) ho hn hbs)
obtain⟨a,c,e,-,-⟩:=hP.form
rw[hL] at e
subst e
obtain⟨xa,xc,rfl,-,-⟩:=hv
obtain⟨oa,oc,rfl⟩:=iy ho
clear hX hW hP hL ho hn hB
generalize (wd 18446744073709551616 X).length=n at *
generalize ods.length=no at *
go_enter func143,ntmps143
go_wp2_with fail
refine (ae AS).mono ?_
rintro e w1 ⟨v1,rfl,ho,hb,hk⟩
have HO:=af (And.intro ho (And.intro hb hk))
clear ho hb hk
go_wp2
go_ret
exact⟨v1,rfl,(ae HO).1,(ae HO).2.1,(ae HO).2.2⟩)
theorem qew (L:Nat):(wd 18446744073709551616 (zx L)).length≤38*2^L:=by(
refine aj (by omega) _ _ ?_
have e:(18446744073709551616:Nat)^(38*2^L)=16^(608*2^L):=by
 rw[show (18446744073709551616:Nat)=16^16 from by decide,← Nat.pow_mul,← Nat.mul_assoc]
rw[e]
exact Nat.pow_lt_pow_left (by omega) (by have:0<2^L:=Nat.pow_pos (by omega);omega))
theorem zyu {n:Nat} {w w':World} (h:Below n w w') {g i:Nat} {u:Value} (hg:g<n) (hc:w.cell? ⟨g,i,none⟩=some u):w'.cell? ⟨g,i,none⟩=some u:=(World.cell?_of_block (w:=w) (h.block g hg)).trans hc
theorem Powers.take {w:World} {g o c L:Nat} {us:List Value} (h:Powers w (.slice (some ⟨g,o,none⟩) us.length c) us) (hL:L≤us.length):Powers w (.slice (some ⟨g,o,none⟩) L c) (us.take L):=by(
have hl:(us.take L).length=L:=by rw[List.length_take];omega
have hsub:∀ j u,(us.take L)[j]? = some u→us[j]? = some u:=fun j u hj=>by
 have hlt:j<L:=by have:=(List.getElem?_eq_some_iff.1 hj).1;omega
 rw[List.getElem?_take_of_lt hlt] at hj
 exact hj
obtain⟨a,c',e,h1,h2⟩:=h.form
simp only[Value.slice.injEq] at e
obtain⟨rfl,-,rfl⟩:=e
exact⟨⟨_,c,by rw[hl],by omega,fun j u hj=>h2 j u (hsub j u hj)⟩,fun j u hj=>h.all j u (hsub j u hj)⟩)
theorem zte (L X Wd:Nat) (hX:X<zx (L+1)) (hW:(Wd=0∧0<X)∨Wd=608*2^(L+1)) (hne:¬ (X/zx L=0∧Wd=0)) :
  (jm Wd X).reverse=(jm (Wd-608*2^L) (X/zx L)).reverse++(jm (608*2^L) (X%zx L)).reverse∧((Wd-608*2^L=0∧0<X/zx L)∨Wd-608*2^L=608*2^L):=by(
have hp:=zme L
have e2:608*2^(L+1)=608*2^L+608*2^L:=by rw[Nat.pow_succ];omega
rcases hW with ⟨rfl,h0⟩ | h
·(
have h1:0<X/zx L:=by
 rcases Nat.eq_zero_or_pos (X/zx L) with h | h
 ·exact absurd ⟨h,rfl⟩ hne
 ·exact h
have h2:zx L≤X:=by
 rcases Nat.lt_or_ge X (zx L) with h | h
 ·rw[Nat.div_eq_of_lt h] at h1;omega
 ·exact h
rw[Nat.zero_sub]
refine⟨?_,.inl ⟨rfl,h1⟩⟩
rw[qay (608*2^L) X h2,List.reverse_append];rfl)
·rw[h,e2,Nat.add_sub_cancel]
 refine⟨?_,.inr rfl⟩
 rw[qax (608*2^L) X (by rw[← e2];exact hX),List.reverse_append];rfl)
theorem zlm (L:Nat) (IH:zsz L) (hL20:L<20):zsz (L+1):=by(
intro base w0 vp us vo ods v X Wd w hbase hP hL hB hv hX hW hl hd ho hn hall
have hp:=zme L
have e2:608*2^(L+1)=608*2^L+608*2^L:=by rw[Nat.pow_succ];omega
have hh:X/zx L<zx L:=by rw[Nat.div_lt_iff_lt_mul hp,← zfu];exact hX
have hlo:X%zx L<zx L:=Nat.mod_lt _ hp
obtain⟨u,hu⟩:∃ u,us[L]? = some u:=⟨us[L],List.getElem?_eq_getElem (by omega)⟩
obtain⟨a,c,rfl,hc1,hcell⟩:=hP.form
obtain⟨g,o,rfl,hg,hcu⟩:=hcell L u hu
rw[hbase.symm] at hg
have cu:=zyu hB hg hcu
have hPT:Powers w0 (.slice (some ⟨g,o,none⟩) L c) (us.take L):=hP.take (by omega)
have hTL:(us.take L).length=L:=by rw[List.length_take];omega
have hsub:∀ j u,(us.take L)[j]? = some u→us[j]? = some u:=fun j u hj=>by
 have hlt:j<L:=by have:=(List.getElem?_eq_some_iff.1 hj).1;omega
 rw[List.getElem?_take_of_lt hlt] at hj
 exact hj
obtain⟨D,hD⟩:∃ D,D=608*2^L:=⟨_,rfl⟩
have rh:(vw (X/zx L)).length≤D:=zcn _ _ (by rw[hD];exact hh)
have rl:(vw (X%zx L)).length≤D:=zcn _ _ (by rw[hD];exact hlo)
have lh:(wd 18446744073709551616 (X/zx L)).length≤1000000:=Nat.le_trans (au (Nat.div_le_self _ _)) hl
have ll:(wd 18446744073709551616 (X%zx L)).length≤1000000:=Nat.le_trans (au (Nat.mod_le _ _)) hl
have lu:=hall L u hu
have QR:=af (zdf v u X (zx L) w hv lu hp (by omega) (by
 have:=qew L
 have h19:2^L≤2^19:=Nat.pow_le_pow_right (by omega) (by omega)
 omega) (Short.of _ _ hl))
have hDB:D<1073741000:=by rw[hD];omega
have hbs:base≤w.heap.size:=by rw[hbase];exact hB.size
have HDW:Hid (wrap64 (608*2^L)=(D:Int)):=by
 have e:(608:Int)*2^L=(D:Int):=by rw[hD];simp
 show _=_
 rw[e];unfold wrap64;omega
have hLc:L<c:=by omega
have i1:(0:Int)≤(L:Int):=by omega
have i2:(L:Int)≤(c:Int):=by omega
have i3:(L:Int)≤(L:Int)+1:=by omega
have HALL:=af hall
have HO:=af (And.intro ho hn)
have HB:=af hB
have IHA:=af (fun ods' vo' v' X' W' W (h1:Below base w0 W) (h2:Sl .u64 W v' (wd 18446744073709551616 X')) (h3:X' < zx L) (h4:W'=0∧0<X'∨W'=608*2^L) (h5:(wd 18446744073709551616 X').length≤1000000) h6 h7 h8 (h9:∀ j u,us[j]? = some u→Sl .u64 W u (wd 18446744073709551616 (zx j)))=>IH base w0 _ _ vo' ods' v' X' W' W hbase hPT hTL h1 h2 h3 h4 h5 h6 h7 h8 (fun j u hj=>h9 j u (hsub j u hj)))
have HX:=af hX
have HW:=af hW
have HD2:=af (And.intro hD (And.intro rh (And.intro rl (And.intro lh (And.intro ll (And.intro hh hlo))))))
clear hDB
have HDD:Hid (ods.length+4*D<1073741000):=by show _<_;rw[hD];omega
obtain⟨xa,xc,rfl,-,-⟩:=hv
obtain⟨oa,oc,rfl⟩:=iy ho
rw[hL]
clear hX hW hP hL ho hn hB IH hPT hTL hsub hall hcell hcu hu hp hc1 hbase hd rh rl lh ll hh hlo e2 hD
generalize (wd 18446744073709551616 X).length=n at *
generalize hno:ods.length=no at *
go_enter func143,ntmps143
go_wp2_with fail
refine (ae QR).mono ?_
rw[ae HDW]
rintro e1 w1 ⟨v1,v2,rfl,hv1,hv2,hb1,-⟩
have HV1:=af hv1
have HV2:=af hv2
have B1:=af hb1
have HB1:=af (j5 (ae HB) (hb1.zdv hbs))
obtain⟨ha,hc,rfl,-,-⟩:=hv1
clear hv2 hb1 QR
by_cases h0:X/zx L=0∧Wd=0
·(
obtain⟨hq0,hw0⟩:=h0
have hXL:X%zx L=X:=by
 have:=Nat.div_add_mod X (zx L)
 rw[hq0,Nat.mul_zero,Nat.zero_add] at this
 exact this
have hX0:0<X:=by
 have hDp:0<608*2^(L+1):=Nat.mul_pos (by omega) (Nat.pow_pos (by omega))
 rcases ae HW with h | h
 ·exact h.2
 ·omega
have HXL:=af hXL
have A:=af (ae IHA ods (.slice oa no oc) v2 (X%zx L) 0 w1 (ae HB1) (ae HV2) (ae HD2).2.2.2.2.2.2 (.inl ⟨rfl,by rw[hXL];exact hX0⟩) (ae HD2).2.2.2.2.1 (by have h1:=(ae HD2).2.2.1;have h2:=(ae HD2).1;have h3:=ae HDD;omega) (by rw[hno];exact zav (ae HO).1 (ae B1)) (by rw[hno];exact (ae HO).2) (fun j u hj=>(ae HALL j u hj).ah (ae B1)))
rw[hq0,zh,List.length_nil]
subst hw0
clear hq0 hXL hX0 IHA HV1 HD2 HX HW HALL HO
go_wp2_with fail
refine (ae A).mono ?_
rintro e2 w2 ⟨v3,rfl,ho2,hb2,hk2⟩
have FIN:=af (And.intro ho2 (And.intro (j5 ((ae B1).zdv hbs) hb2) ((yt.zjk (ae B1)).trans hk2)))
rw[ae HXL] at FIN
clear ho2 hb2 hk2 A
go_wp2
go_ret
exact⟨v3,rfl,(ae FIN).1,(ae FIN).2.1,(ae FIN).2.2⟩)
·(
obtain⟨f1,f2⟩:=zte L X Wd (ae HX) (ae HW) h0
rw[← (ae HD2).1] at f1 f2
obtain⟨W',hW'⟩:∃ W',W'=Wd-D:=⟨_,rfl⟩
rw[← hW'] at f1 f2
have hmax:max ((Wd:Int)-(D:Int)) 0=(W':Int):=by omega
have hWl:W'≤D:=by omega
have hWdl:Wd≤2*D:=by
 have e2:608*2^(L+1)=608*2^L+608*2^L:=by rw[Nat.pow_succ];omega
 have:=(ae HD2).1
 rcases ae HW with h | h <;> omega
have A:=af (ae IHA ods (.slice oa no oc) (.slice ha (wd 18446744073709551616 (X/zx L)).length hc) (X/zx L) W' w1 (ae HB1) (ae HV1) (ae HD2).2.2.2.2.2.1 (by rw[← (ae HD2).1];exact f2) (ae HD2).2.2.2.1 (by have h1:=(ae HD2).2.1;have h2:=(ae HD2).1;have h3:=ae HDD;omega) (by rw[hno];exact zav (ae HO).1 (ae B1)) (by rw[hno];exact (ae HO).2) (fun j u hj=>(ae HALL j u hj).ah (ae B1)))
have F1:=af f1
have WL:Hid (0<(jm W' (X/zx L)).length∧(jm W' (X/zx L)).length≤D):=by
 refine⟨zly _ _ (by have hDp:0<608*2^L:=Nat.mul_pos (by omega) (Nat.pow_pos (by omega));have:=(ae HD2).1;rcases f2 with h | h <;> omega),?_⟩
 rw[zcl]
 have:=(ae HD2).2.1
 omega
have hh0:((((wd 18446744073709551616 (X/zx L)).length:Int)==0)=true→((Wd:Int)==0)=false):=fun h=>by
 have h1:(wd 18446744073709551616 (X/zx L)).length=0:=by have:=beq_iff_eq.1 h;omega
 rw[ze (by omega)] at h1
 rw[beq_eq_false_iff_ne]
 intro h2
 exact h0 ⟨h1,by omega⟩
clear f1 f2 h0 hW'
generalize (wd 18446744073709551616 (X/zx L)).length=nh at *
have hsub64:wrap64 ((Wd:Int)-(D:Int))=(Wd:Int)-(D:Int):=by have:=ae HDD;unfold wrap64;omega
by_cases hn0:nh=0
·(
have hne:((Wd:Int)==0)=false:=hh0 (by simp[hn0])
subst hn0
clear hh0
go_wp2_with fail
refine (ae A).mono ?_
rintro e2 w2 ⟨v3,rfl,ho2,hb2,hk2⟩
have HB2:=af (j5 (ae HB1) hb2)
have HV22:=af (hk2 _ _ (ae HV2))
obtain⟨oa2,oc2,rfl⟩:=iy ho2
have hol:(ods++(jm W' (X/zx L)).reverse).length=no+(jm W' (X/zx L)).length:=by rw[List.length_append,List.length_reverse,hno]
have A2:=af (ae IHA (ods++(jm W' (X/zx L)).reverse) (.slice oa2 (ods++(jm W' (X/zx L)).reverse).length oc2) v2 (X%zx L) D w2 (ae HB2) (ae HV22) (ae HD2).2.2.2.2.2.2 (.inr (ae HD2).1) (ae HD2).2.2.2.2.1 (by have h1:=(ae HD2).2.2.1;have h2:=(ae HD2).1;have h3:=ae HDD;have h4:=(ae WL).2;omega) ho2 (.inr (by have h4:=(ae WL).1;omega)) (fun j u hj=>hk2 _ _ ((ae HALL j u hj).ah (ae B1))))
have K2:=af (And.intro hb2 hk2)
clear ho2 hb2 hk2 A hol IHA HALL HV22 HB2
generalize (ods++(jm W' (X/zx L)).reverse).length=no2 at *
go_wp2_with fail
refine (ae A2).mono ?_
rintro e3 w3 ⟨v4,rfl,ho3,hb3,hk3⟩
have FIN:=af (And.intro ho3 (And.intro (j5 ((ae B1).zdv hbs) (j5 (ae K2).1 hb3)) (((yt.zjk (ae B1)).trans (ae K2).2).trans hk3)))
rw[List.append_assoc,← ae F1] at FIN
clear ho3 hb3 hk3 A2
go_wp2
go_ret
exact⟨v4,rfl,(ae FIN).1,(ae FIN).2.1,(ae FIN).2.2⟩)
·(
have hne:((nh:Int)==0)=false:=beq_eq_false_iff_ne.2 (by omega)
clear hh0
go_wp2_with fail
refine (ae A).mono ?_
rintro e2 w2 ⟨v3,rfl,ho2,hb2,hk2⟩
have HB2:=af (j5 (ae HB1) hb2)
have HV22:=af (hk2 _ _ (ae HV2))
obtain⟨oa2,oc2,rfl⟩:=iy ho2
have hol:(ods++(jm W' (X/zx L)).reverse).length=no+(jm W' (X/zx L)).length:=by rw[List.length_append,List.length_reverse,hno]
have A2:=af (ae IHA (ods++(jm W' (X/zx L)).reverse) (.slice oa2 (ods++(jm W' (X/zx L)).reverse).length oc2) v2 (X%zx L) D w2 (ae HB2) (ae HV22) (ae HD2).2.2.2.2.2.2 (.inr (ae HD2).1) (ae HD2).2.2.2.2.1 (by have h1:=(ae HD2).2.2.1;have h2:=(ae HD2).1;have h3:=ae HDD;have h4:=(ae WL).2;omega) ho2 (.inr (by have h4:=(ae WL).1;omega)) (fun j u hj=>hk2 _ _ ((ae HALL j u hj).ah (ae B1))))
have K2:=af (And.intro hb2 hk2)
clear ho2 hb2 hk2 A hol IHA HALL HV22 HB2
generalize (ods++(jm W' (X/zx L)).reverse).length=no2 at *
go_wp2_with fail
refine (ae A2).mono ?_
rintro e3 w3 ⟨v4,rfl,ho3,hb3,hk3⟩
have FIN:=af (And.intro ho3 (And.intro (j5 ((ae B1).zdv hbs) (j5 (ae K2).1 hb3)) (((yt.zjk (ae B1)).trans (ae K2).2).trans hk3)))
rw[List.append_assoc,← ae F1] at FIN
clear ho3 hb3 hk3 A2
go_wp2
go_ret
exact⟨v4,rfl,(ae FIN).1,(ae FIN).2.1,(ae FIN).2.2⟩)))
theorem zoa (L:Nat) (h:L≤20):zsz L:=by(
induction L with
| zero=>exact zll
| succ L ih=>exact zlm L (ih (by omega)) (by omega))
theorem qam (X n:Nat) (h:(wd 18446744073709551616 X).length≤n):(vw X).length≤20*n:=by(
refine zcn X _ (Nat.lt_of_lt_of_le (ak (B:=18446744073709551616) (by omega) X n h) ?_)
rw[Nat.pow_mul]
exact Nat.pow_le_pow_left (by decide) _)
theorem zkp (v:Value) (X:Nat) (w:World) (hv:Sl .u64 w v (wd 18446744073709551616 X)) (hl:(wd 18446744073709551616 X).length≤1000000) (htab:Lib.TabIs prog w "internal/strconv.uint64pow10" .u64 Lib.pow10Tab) (t:ByteArray) (ht:Hid (t=⟨(Lib.decDigits X).toArray⟩)) :
  Calls prog 63 #[v] w fun e w'=>e=.returned (.string t)∧But [] w w':=by(
by_cases hu:X < 18446744073709551616
·(
have H:=af htab
have HW:=af (zay v X hu w hv)
obtain⟨xa,xc,rfl,-,-⟩:=hv
clear htab
generalize (wd 18446744073709551616 X).length=n at *
go_enter func63,ntmps63
go_wp2_with fail
refine (ae HW).mono ?_
rintro e w1 ⟨rfl,hw⟩
obtain rfl:=hw.symm
clear hw
go_wp2_with fail
refine (zep X hu _ (ae H) t ht).mono ?_
rintro e w1 ⟨rfl,hb⟩
go_wp2
go_ret
exact⟨rfl,hb⟩)
·(
have hp:0<X:=by omega
have HW:=af (ul v X (by omega) w hv (by omega))
have PF:=af (zor v X w hv hl)
have HV:=af hv
have hdl:=qam X _ (Nat.le_refl _)
have AL:Hid (∀ vo us W,W.ownsRow w.heap.size 103 1 vo us.length us→(∀ j u,us[j]? = some u→Sl .u64 W u (wd 18446744073709551616 (zx j)))→But [] w W→(∀ j,j<us.length→zx j≤X)→X<zx us.length →
 Calls prog 143 #[.slice none 0 0,v,.int .i64 0,vo] W fun e w'=>∃ v',e=.returned v'∧w'.ownsRow W.heap.size 5 1 v' (vw X).reverse.length ((vw X).reverse.map u8v)∧But [] W w'):=fun vo us W h1 h2 h3 h4 h5=>by
 have hL:1824*2^us.length<128*1000000+3648:=by
  rcases Nat.eq_zero_or_pos us.length with h0 | h0
  ·rw[h0];omega
  ·obtain⟨j,hj⟩:∃ j,us.length=j+1:=⟨us.length-1,by omega⟩
   have:=zmf X j 1000000 hl (h4 j (by omega))
   rw[hj,Nat.pow_succ]
   omega
 have hL20:us.length≤20:=by
  rcases Nat.lt_or_ge 20 us.length with h | h
  ·have:2^21≤2^us.length:=Nat.pow_le_pow_right (by omega) h
   omega
  ·exact h
 have:=zoa us.length hL20 W.heap.size W vo us (.slice none 0 0) [] v X 0 W rfl (qbx h1 h2) rfl (But.refl [] W).below (hv.ah h3) h5 (.inl ⟨rfl,hp⟩) hl (by simp only[List.length_nil];omega) (World.ownsRow_nil _ _ _ _) (.inl rfl) h2
 rw[zja] at this
 refine this.mono fun e w' ⟨v',e1,e2,e3,_⟩=>⟨v',e1,by simpa using e2,But.of_below e3⟩
have hrl:0<(vw X).reverse.length:=by rw[List.length_reverse,ui hp];simp
have HRR:=af (zhu X hp)
have hrb:(vw X).reverse.length≤20000000:=by rw[List.length_reverse];omega
obtain⟨xa,xc,rfl,-,-⟩:=hv
clear htab hu hl hdl
generalize (wd 18446744073709551616 X).length=n at *
go_enter func63,ntmps63
go_wp2_with fail
refine (ae HW).mono ?_
rintro e w1 ⟨rfl,hw⟩
obtain rfl:=hw.symm
clear hw
go_wp2_with fail
refine (ae PF).mono ?_
rintro e w1 ⟨vo,us,rfl,h1,h2,h3,h4,h5⟩
have B1:=af h3
have A1:=af (ae AL vo us w1 h1 h2 h3 h4 h5)
clear h1 h2 h3 h4 h5 AL PF
go_wp2_with fail
refine (ae A1).mono ?_
rintro e w2 ⟨v2,rfl,ho2,hb2⟩
have hB2:But [] w w2:=(ae B1).trans' hb2
obtain⟨g,cg,rfl,hg,hcg,hrow⟩:=zdk ho2 hrl
have hcv:=run_convert_bytes_back (P:=prog) w2 185 9 5 ⟨g,0,none⟩ cg (vw X).reverse underlying185 underlying5 underlying9 (fun j hj=>zmr hrow j _ (by rw[List.getElem?_map,List.getElem?_eq_getElem hj];rfl))
rw[ae HRR,← ae ht] at hcv
rw[ae HRR]
have HB2:=af hB2
clear ho2 hb2 hrow hB2 hrl
generalize (Lib.decDigits X).length=m at *
go_wp2
go_ret
exact⟨rfl,ae HB2⟩))
end Go.Proofs.YtagmkkiagjmimaaGreatDoor
