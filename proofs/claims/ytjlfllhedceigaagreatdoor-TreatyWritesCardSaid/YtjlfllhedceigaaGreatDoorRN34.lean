/- A long number divided by a shorter one,  -/
import Derived.Deep.LoopGhost
import Derived.Test.YtjlfllhedceigaaGreatDoorRF1
import Derived.Test.YtjlfllhedceigaaGreatDoorRN31
namespace Go.Proofs.YtjlfllhedceigaaGreatDoor
set_option linter.unusedVariables false
open Go.Proofs.Tryz
open Go.RowKit
set_option maxHeartbeats 8000000
set_option maxRecDepth 100000
theorem qia (rs qs:List Nat) (i:Nat) (hl:i+qs.length≤rs.length) (hz:∀ j,i≤j→j<i+qs.length→rs[j]?.getD 0=0):vl 18446744073709551616 (rs.take i++qs++rs.drop (i+qs.length))=vl 18446744073709551616 rs + 18446744073709551616^i*vl 18446744073709551616 qs:=by(
 have hti:(rs.take i).length=i:=by rw[List.length_take];omega
 have hmid:((rs.drop i).take qs.length).length=qs.length:=by rw[List.length_take,List.length_drop];omega
 have hz0:vl 18446744073709551616 ((rs.drop i).take qs.length)=0:=zac 18446744073709551616 _ (fun j hj=>by
  rw[hmid] at hj
  rw[List.getElem?_take_of_lt hj,List.getElem?_drop]
  exact hz (i+j) (by omega) (by omega))
 have e:rs=rs.take i++(rs.drop i).take qs.length++rs.drop (i+qs.length):=by
  rw[List.append_assoc,← List.drop_drop,List.take_append_drop,List.take_append_drop]
 have h2:=congrArg (vl 18446744073709551616) e
 rw[zq,zq,List.length_append,hti,hmid,hz0] at h2
 rw[zq,zq,List.length_append,hti]
 omega)
structure zam (X Y nx top:Nat) (rs:List Nat):Prop where
 len:rs.length=nx
 mem:∀ x ∈ rs,x < 18446744073709551616
 zero:∀ j,j<top→rs[j]?.getD 0=0
 val:vl 18446744073709551616 rs=18446744073709551616^top*(X / 18446744073709551616^top/Y)
theorem zam.start (X Y nx top:Nat) (h:nx≤top) (hX:X < 18446744073709551616^nx):zam X Y nx top (List.replicate nx 0):=by(
 refine⟨by simp,fun x hx=>by rw[List.mem_replicate] at hx;omega,fun j _=>by rw[List.getElem?_replicate];split <;> rfl,?_⟩
 have h1:X / 18446744073709551616^top=0:=Nat.div_eq_of_lt (Nat.lt_of_lt_of_le hX (Nat.pow_le_pow_right (by omega) h))
 rw[qy,h1,Nat.zero_div,Nat.mul_zero])
theorem zmv (X Y i n:Nat) (hY0:0<Y) (hY:Y < 18446744073709551616^n) (D:Nat) (hD:D=X / 18446744073709551616^(i+n)%Y * 18446744073709551616^n+X / 18446744073709551616^i % 18446744073709551616^n) :
   X / 18446744073709551616^i/Y=X / 18446744073709551616^(i+n)/Y * 18446744073709551616^n+D/Y∧X / 18446744073709551616^i%Y=D%Y∧D/Y < 18446744073709551616^n∧D/Y≤X / 18446744073709551616^i∧D < 18446744073709551616^(n+n):=by(
 have hP:0 < 18446744073709551616^n:=Nat.pow_pos (by omega)
 have e1:X / 18446744073709551616^(i+n)=X / 18446744073709551616^i / 18446744073709551616^n:=by rw[Nat.pow_add,Nat.div_div_eq_div_mul]
 rw[e1] at hD ⊢
 generalize X / 18446744073709551616^i=A at *
 have hr:=Nat.mod_lt (A / 18446744073709551616^n) hY0
 have hp:=Nat.mod_lt A hP
 obtain⟨f1,f2⟩:=halves A Y (18446744073709551616^n) (A / 18446744073709551616^n/Y) (A / 18446744073709551616^n%Y) (D/Y) (D%Y) (by rw[Nat.mul_comm];exact (Nat.div_add_mod _ _).symm) (by rw[← hD,Nat.mul_comm (D/Y)];exact (Nat.div_add_mod _ _).symm) (Nat.mod_lt _ hY0)
 have hDl:D<Y * 18446744073709551616^n:=by
  have h1:(A / 18446744073709551616^n%Y+1) * 18446744073709551616^n≤Y * 18446744073709551616^n:=Nat.mul_le_mul_right _ hr
  rw[Nat.succ_mul] at h1
  omega
 refine⟨f1,f2,Nat.div_lt_of_lt_mul hDl,?_,?_⟩
 ·have:A/Y≤A:=Nat.div_le_self _ _
  omega
 ·rw[Nat.pow_add]
  exact Nat.lt_of_lt_of_le hDl (Nat.mul_le_mul_right _ (Nat.le_of_lt hY)))
theorem zam.step {X Y nx i n:Nat} {rs:List Nat} (h:zam X Y nx (i+n) rs) (hY0:0<Y) (hY:Y < 18446744073709551616^n) (D:Nat) (hD:D=X / 18446744073709551616^(i+n)%Y * 18446744073709551616^n+X / 18446744073709551616^i % 18446744073709551616^n) (hl:i+(wd 18446744073709551616 (D/Y)).length≤nx) :
   zam X Y nx i (rs.take i++wd 18446744073709551616 (D/Y)++rs.drop (i+(wd 18446744073709551616 (D/Y)).length)):=by(
 obtain⟨f1,-,f3,-,-⟩:=zmv X Y i n hY0 hY D hD
 have hq:(wd 18446744073709551616 (D/Y)).length≤n:=aj (by omega) _ _ f3
 have hlen:=h.len
 have hti:(rs.take i).length=i:=by rw[List.length_take];omega
 refine⟨?_,?_,?_,?_⟩
 ·rw[List.length_append,List.length_append,hti,List.length_drop];omega
 ·(
 intro x hx
 rw[List.mem_append,List.mem_append] at hx
 rcases hx with (hx | hx) | hx
 ·exact h.mem x (List.mem_of_mem_take hx)
 ·exact zo (by omega) _ x hx
 ·exact h.mem x (List.mem_of_mem_drop hx))
 ·intro j hj
  rw[List.append_assoc,List.getElem?_append_left (by rw[hti];exact hj),List.getElem?_take_of_lt hj]
  exact h.zero j (by omega)
 ·rw[qia rs _ i (by omega) (fun j _ hj=>h.zero j (by omega)),h.val,qh (by omega),f1,Nat.pow_add,Nat.mul_add]
  congr 1
  rw[Nat.mul_assoc,Nat.mul_comm (18446744073709551616^n)])
theorem qp.over {w w1 w2:World} {vx v1:Value} {xs:List Nat} {g:Nat} (h:qp w vx w1 v1) (hs:Sl .u64 w1 v1 xs) (hb:But [g] w1 w2) (ho:Off g v1):qp w vx w2 v1:=fun b off n c e=>by
 rcases h b off n c e with ⟨h1,h2⟩ | h1
 ·refine .inl ⟨h1,fun i hi=>?_⟩
  have hn:=hs.ztd e
  have hl:=hs.lt (by omega) b off n c e
  rw[hb.frozen (p:=⟨b,off+i,none⟩) hl (by have:=ho b off n c e;simpa using this)]
  exact h2 i hi
 ·exact .inr h1
theorem qp.off {w w1:World} {vx v1:Value} {g:Nat} (h:qp w vx w1 v1) (hg:g<w.heap.size) (hx:Off g vx):Off g v1:=fun b off n c e=>by
 rcases h b off n c e with ⟨h1,-⟩|⟨o0,n0,c0,e0,-,-⟩
 ·omega
 ·exact hx _ _ _ _ e0
theorem qex {w:World} {g nx i:Nat} {rs qs:List Nat} {vq:Value} (hs:Seg w g 0 rs) (hl:rs.length=nx) (hq:Sl .u64 w vq qs) (hi:i+qs.length≤nx):∃ w',(∀ ty,(Builtin.copy_ #[110,111] ty #[.slice (some ⟨g,i,none⟩) (nx-i) (nx-i),vq]).run prog w=.ok (goInt qs.length) w')∧Hid (Seg w' g 0 (rs.take i++qs++rs.drop (i+qs.length))∧But [g] w w'):=by(
 have S2:=hs.sub i (nx-i) (by omega)
 have hsl:((rs.drop i).take (nx-i)).length=nx-i:=by rw[List.length_take,List.length_drop,hl];omega
 obtain⟨w3,hcp,HC⟩:=qz (P:=prog) w 110 111 24 underlying110 dw g (0+i) (nx-i) (nx-i) vq ((rs.drop i).take (nx-i)) qs S2 hsl.symm hq (by rw[hsl];omega)
 have S7:=(ae HC).1.sub 0 qs.length (by rw[List.length_append];omega)
 rw[List.drop_zero,List.take_left,Nat.add_zero] at S7
 have SW:=hs.whole (ae HC).2 S7 rfl (by omega)
 rw[Nat.zero_add] at SW hcp
 exact⟨w3,hcp,SW,(ae HC).2.but⟩)
def PartsAt (W:World) (vx:Value) (X Y nx n g k:Nat) (vr vi:Value) (wr:World):Prop :=
 ∃ (z:Int) (rs:List Nat),vi=.int .i64 z∧z=(k:Int)-(n:Int)∧zam X Y nx k rs∧Seg wr g 0 rs∧Sl .u64 wr vr (wd 18446744073709551616 (X / 18446744073709551616^k%Y))∧qp W vx wr vr∧But [g] W wr∧k<nx+n∧n ∣ k
theorem zil (vx vy:Value) (X Y:Nat) (w:World) (hx:Sl .u64 w vx (wd 18446744073709551616 X)) (hy:Sl .u64 w vy (wd 18446744073709551616 Y)) (hY:0<Y) (hX:0<X) (hD:∀ D,(wd 18446744073709551616 D).length≤(wd 18446744073709551616 Y).length+(wd 18446744073709551616 Y).length→xw D Y) (hl:(wd 18446744073709551616 X).length+(wd 18446744073709551616 Y).length<4194304) :
   Calls prog 296 #[vx,vy] w fun e w'=>∃ v1 v2,e=.returned (.tuple #[v1,v2])∧Sl .u64 w' v1 (wd 18446744073709551616 (X/Y))∧Sl .u64 w' v2 (wd 18446744073709551616 (X%Y))∧But [] w w'∧qp w vx w' v2:=by(
 have hnp:0<(wd 18446744073709551616 Y).length:=by rw[Nat.pos_iff_ne_zero];intro e;rw[zi (by omega)] at e;omega
 have hxp:0<(wd 18446744073709551616 X).length:=by rw[Nat.pos_iff_ne_zero];intro e;rw[zi (by omega)] at e;omega
 obtain⟨nx,hnx⟩:∃ nx,nx=(wd 18446744073709551616 X).length:=⟨_,rfl⟩
 obtain⟨n,hn⟩:∃ n,n=(wd 18446744073709551616 Y).length:=⟨_,rfl⟩
 have hYP:Y < 18446744073709551616^n:=by rw[hn];exact zct Y
 have hXP:X < 18446744073709551616^nx:=by rw[hnx];exact zct X
 have offx:Off w.heap.size vx:=eu hx hxp _ (Nat.le_refl _)
 have offy:Off w.heap.size vy:=eu hy hnp _ (Nat.le_refl _)
 rw[← hnx,← hn] at hl
 rw[← hnx] at hxp
 rw[← hn] at hnp hD
 have bM:=jr w nx 24
 have SM:=Seg.made w nx 24
 obtain⟨d,hd⟩:∃ d,d=(nx-1)/n:=⟨_,rfl⟩
 obtain⟨z0,hz0⟩:∃ z0,z0=d*n:=⟨_,rfl⟩
 have hz1:z0≤nx-1:=by rw[hz0,hd];exact Nat.div_mul_le_self _ _
 have hz2:nx≤z0+n:=by
  have h1:=Nat.div_add_mod (nx-1) n
  have h2:=Nat.mod_lt (nx-1) hnp
  rw[← hd,Nat.mul_comm,← hz0] at h1
  omega
 have hdl:d≤nx:=by rw[hd];exact Nat.le_trans (Nat.div_le_self _ _) (Nat.sub_le _ _)
 have hmk:=fun wx=>jy wx nx (by omega)
 obtain⟨W,hW⟩:∃ W,W=w.alloc (.cells (madeCells #[.int .u64 0] nx) 24):=⟨_,rfl⟩
 have hgW:w.heap.size<W.heap.size:=by rw[hW];simp
 rw[← hW] at bM SM
 have A0:Hid (PartsAt W vx X Y nx n w.heap.size (z0+n) (.slice none 0 0) (.int .i64 (z0:Int)) W):=by
  refine⟨(z0:Int),_,rfl,by omega,zam.start X Y nx (z0+n) hz2 hXP,SM,?_,qp.nil _ _ _ _ _,But.refl _ _,by omega,?_⟩
  ·rw[Nat.div_eq_of_lt (Nat.lt_of_lt_of_le hXP (Nat.pow_le_pow_right (by omega) hz2)),Nat.zero_mod,zk]
   exact Sl.nil _ _
  ·rw[hz0];exact⟨d+1,by rw[Nat.mul_comm,Nat.mul_succ]⟩
 have SX:=af (hx.ah bM)
 have SY:=af (hy.ah bM)
 have OX:=af offx
 have OY:=af offy
 have BM:=af bM
 have GW:=af hgW
 have HD:=af hD
 have HYP:=af (And.intro hY hYP)
 have e1:((nx:Int)-1)/(n:Int)=(d:Int):=by rw[hd,Int.natCast_ediv,Int.natCast_sub hxp];rfl
 have e2:(d:Int)*(n:Int)=(z0:Int):=by rw[hz0,Int.natCast_mul]
 have e3:wrap64 (d:Int)=(d:Int):=by unfold wrap64;omega
 have e4:wrap64 (z0:Int)=(z0:Int):=by unfold wrap64;omega
 have n0:((n:Int)==0)=false:=beq_eq_false_iff_ne.2 (by omega)
 have HW:=af hW
 obtain⟨a1,c1,rfl,-,-⟩:=hx
 obtain⟨a2,c2,rfl,-,-⟩:=hy
 rw[← hnx] at A0 SX OX
 rw[← hn] at SY OY
 rw[← hnx,← hn]
 have NX:=af hnx.symm
 clear hnx hn hD hX offx offy bM SM hd hz0 hW hYP hXP hY hgW
 go_enter func296,ntmps296
 go_wp2_with fail
 rw[← ae HW]
 go_loopg [9,10] (z0+n) (fun k vr vi wr=>Hid (PartsAt W (.slice a1 nx c1) X Y nx n w.heap.size k vr vi wr))
 case atStart=>exact A0
 case round =>(
 clear A0 e1 e2 e3 e4
 obtain⟨z,rs,rfl,hz,hI,hS,hR,hH,hB,hk,hdv⟩:=ae hrel
 clear hrel
 obtain⟨hY,hYP⟩:=ae HYP
 have hlen:=hI.len
 by_cases hz0:z<0
 ·(
 have hgk:gk=0:=Nat.eq_zero_of_dvd_of_lt hdv (by omega)
 subst hgk
 have hv:vl 18446744073709551616 rs=X/Y:=by rw[hI.val,Nat.pow_zero,Nat.one_mul,Nat.div_one]
 rw[Nat.pow_zero,Nat.div_one] at hR
 have TR:=af (qa (.slice (some ⟨w.heap.size,0,none⟩) nx nx) rs wr (by have:=hS.sl nx (by omega);rw[hlen] at this;exact this) hI.mem (by omega))
 rw[hv] at TR
 have FIN:=af (And.intro hR (And.intro ((ae BM).trans hB (fun x hx=>by simp at hx;subst hx;exact .inr (Nat.le_refl _))) (hH.pre (ae BM).size)))
 clear hI hS hR hH hB hdv hlen hv hY hYP hz
 go_wp2_with fail
 refine (ae TR).mono ?_
 rintro e1 w1 ⟨v1,rfl,hv1,hw,-⟩
 obtain rfl:=hw.symm
 clear hw
 have HV1:=af hv1
 clear hv1 TR
 go_wp2
 go_ret2
 exact⟨_,_,rfl,ae HV1,(ae FIN).1,(ae FIN).2.1,(ae FIN).2.2⟩)
 ·(
 obtain⟨i,rfl⟩:∃ i:Nat,z=(i:Int):=⟨z.toNat,by omega⟩
 have hki:gk=i+n:=by omega
 subst hki
 obtain⟨D,hDD⟩:∃ D,D=X / 18446744073709551616^(i+n)%Y * 18446744073709551616^n+X / 18446744073709551616^i % 18446744073709551616^n:=⟨_,rfl⟩
 obtain⟨f1,f2,f3,f4,f5⟩:=zmv X Y i n hY hYP D hDD
 have hq1:(wd 18446744073709551616 (D/Y)).length≤nx-i:=by
  have h1:=aq f4
  have h2:=jd i X
  rw[ae NX] at h2
  omega
 have hrl:(wd 18446744073709551616 (X / 18446744073709551616^(i+n)%Y)).length≤n:=aj (by omega) _ _ (Nat.lt_trans (Nat.mod_lt _ hY) hYP)
 have hdl:(wd 18446744073709551616 D).length≤n+n:=aj (by omega) _ _ f5
 have hxl:=jd i X
 rw[ae NX] at hxl
 have sx:=(ae SX).but hB (fun b off cap m e=>by have:=ae OX b off m cap e;simpa using this)
 have sy:=(ae SY).but hB (fun b off cap m e=>by have:=ae OY b off m cap e;simpa using this)
 have HI:=af (zsw _ X i wr sx (by omega))
 have LO:=af (fun v1 (h:Sl .u64 wr v1 (wd 18446744073709551616 (X / 18446744073709551616^i)))=>zgm v1 _ n wr h (by omega) (by omega))
 have AB:Hid (∀ v2,Sl .u64 wr v2 (wd 18446744073709551616 (X / 18446744073709551616^i % 18446744073709551616^n))→Calls prog 321 #[u9,.int .i64 (n:Int),v2] wr fun e w'=>∃ v',e=.returned v'∧Sl .u64 w' v' (wd 18446744073709551616 D)∧But [] wr w'∧(v'=v2∨Own wr.heap.size w' v')):=fun v2 h=>by
  rw[hDD]
  exact (tu u9 v2 _ _ n wr hR h (Nat.mod_lt _ (Nat.pow_pos (by omega))) (by omega)).mono fun e w' ⟨v',he,hv,hb,hp⟩=>⟨v',he,hv,hb,hp.elim (fun h=>.inl h.2) .inr⟩
 have DV:=af (ae HD D hdl)
 unfold xw at DV
 rw[← f2] at DV
 have STEP:=af (hI.step hY hYP D hDD (by omega))
 have KEEP:=af (And.intro hS (And.intro hB (And.intro hlen (And.intro sx sy))))
 have HQ:=af hq1
 have HDV:=af hdv
 have i1:(0:Int)≤(i:Int):=by omega
 have i2:(i:Int)<(nx:Int):=by omega
 have i3:i<nx:=by omega
 obtain⟨ar,cr,rfl,-,-⟩:=hR
 generalize (wd 18446744073709551616 (X / 18446744073709551616^(i+n)%Y)).length=lr at *
 clear hI hS hH hB hdv hlen hY hYP hz hDD f1 f2 f3 f4 f5 hq1 hrl hdl hxl sx sy hz0
 go_wp2_with fail
 refine (ae HI).mono ?_
 rintro e1 w1 ⟨v1,rfl,hv1,hw,he1⟩
 obtain rfl:=hw.symm
 clear hw
 have HV1:=af hv1
 have HE1:=af he1
 clear hv1 he1 HI
 go_wp2_with fail
 refine (ae LO _ (ae HV1)).mono ?_
 rintro e2 w2 ⟨v2,rfl,hv2,hw,he2⟩
 obtain rfl:=hw.symm
 clear hw
 have HV2:=af hv2
 have HE2:=af ((ae HE1).trans (ae HV1) (But.refl _ _) (Nat.le_refl _) he2)
 clear hv2 he2 LO HE1 HV1
 go_wp2_with fail
 refine (ae AB _ (ae HV2)).mono ?_
 rintro e3 w3 ⟨v3,rfl,hv3,hb3,hp3⟩
 have HV3:=af hv3
 have B3:=af hb3
 have HE3:Hid (qp wr (.slice a1 nx c1) w3 v3):=by
  rcases hp3 with rfl | ho
  ·exact (ae HE2).but (ae HV2) hb3
  ·exact qp.zcq ho
 clear hv3 hb3 hp3 AB HE2 HV2
 go_wp2_with fail
 refine (ae DV _ _ _ (ae HV3) ((ae KEEP).2.2.2.2.ah (ae B3))).mono ?_
 rintro e4 w4 ⟨v4,v5,rfl,hv4,hv5,hb4,he4⟩
 have b4:=(ae B3).trans' hb4
 have he5:=((ae HE3).trans (ae HV3) hb4 (ae B3).size he4).pre (ae KEEP).2.1.size
 have off5:=he5.off (ae GW) (ae OX)
 obtain⟨w5,hcp,HC⟩:=qex (i:=i) (nx:=nx) ((ae KEEP).1.ah b4) (ae KEEP).2.2.1 hv4 (by have:=ae HQ;omega)
 have s5:=hv5.but (ae HC).2 (fun b off cap m e=>by have:=off5 b off m cap e;simpa using this)
 have R:Hid (PartsAt W (.slice a1 nx c1) X Y nx n w.heap.size i v5 (.int .i64 ((i:Int)-(n:Int))) w5) :=
  ⟨_,_,rfl,rfl,ae STEP,(ae HC).1,s5,he5.over hv5 (ae HC).2 off5,((ae KEEP).2.1.trans (But.of_nil b4) (fun x hx=>.inl hx)).trans (ae HC).2 (fun x hx=>.inl hx),by omega,(Nat.dvd_add_iff_left (Nat.dvd_refl n)).2 (ae HDV)⟩
 obtain⟨a4,c4,rfl,-,-⟩:=hv4
 clear hv5 hb4 he4 b4 he5 off5 HC s5 HE3 HV3 B3 DV KEEP STEP HDV
 generalize (wd 18446744073709551616 (D/Y)).length=lq at *
 go_wp2
 go_roundg i
 case measure=>omega
 case rel=>exact ae R)))
theorem zib (X Y:Nat) (hlt:X<Y) (hl:(wd 18446744073709551616 Y).length<268435456):xw X Y:=by(
 intro vx vy w hx hy
 have hlen:=aq (Nat.le_of_lt hlt)
 have hcmp:=wz vx vy X Y w hx hy (by omega) (by omega)
 rw[uj hlt] at hcmp
 rw[Nat.div_eq_of_lt hlt,Nat.mod_eq_of_lt hlt,zk]
 have HC:=af hcmp
 have HX:=af hx
 obtain⟨a1,c1,rfl,-,-⟩:=hx
 obtain⟨a2,c2,rfl,-,-⟩:=hy
 clear hcmp
 generalize (wd 18446744073709551616 X).length=nx at *
 generalize (wd 18446744073709551616 Y).length=ny at *
 go_enter func255,ntmps255
 go_wp2_with fail
 refine (ae HC).mono ?_
 rintro e w1 ⟨rfl,q,rfl⟩
 go_wp2
 go_ret2
 exact⟨_,_,rfl,Sl.nil _ _,ae HX,(But.refl _ _).drewN q,qp.self _ _ _⟩)
theorem zot (X Y:Nat) (hle:Y≤X) (h80:80≤(wd 18446744073709551616 Y).length) (hp:(wd 18446744073709551616 Y).length+(wd 18446744073709551616 Y).length<(wd 18446744073709551616 X).length) (hl:(wd 18446744073709551616 X).length+(wd 18446744073709551616 Y).length<4194304) (hD:∀ D,(wd 18446744073709551616 D).length≤(wd 18446744073709551616 Y).length+(wd 18446744073709551616 Y).length→xw D Y):xw X Y:=by(
 intro vx vy w hx hy
 have hY:0<Y:=by
  rcases Nat.eq_zero_or_pos Y with h | h
  ·subst h;rw[zk] at h80;simp at h80
  ·exact h
 have hcmp:=wz vx vy X Y w hx hy (by omega) (by omega)
 have hc0:=zca hle
 generalize zn X Y=r at *
 have HC:=af hcmp
 have LD:=af (fun (W:World) (h1:Sl .u64 W vx (wd 18446744073709551616 X)) (h3:Sl .u64 W vy (wd 18446744073709551616 Y))=>zil vx vy X Y W h1 h3 hY (by omega) hD hl)
 have HX:=af hx
 have HY:=af hy
 obtain⟨a1,c1,rfl,-,-⟩:=hx
 obtain⟨a2,c2,rfl,-,-⟩:=hy
 clear hcmp hD
 generalize (wd 18446744073709551616 X).length=nx at *
 generalize (wd 18446744073709551616 Y).length=ny at *
 have hr:decide (r<0)=false:=by simp;omega
 go_enter func255,ntmps255
 go_wp2_with fail
 refine (ae HC).mono ?_
 rintro e w1 ⟨rfl,q,rfl⟩
 go_wp2_with fail
 refine (ae LD _ (by exact ae HX) (by exact ae HY)).mono ?_
 rintro e w2 ⟨v1,v2,rfl,h1,h3,h4,h5⟩
 have ALL:=af (And.intro h1 (And.intro h3 (And.intro (((But.refl [] _).drewN q).trans' h4) (h5.pre (w:=w) (Nat.le_refl _)))))
 clear h1 h3 h4 h5 LD HC
 go_wp2
 go_ret2
 exact⟨v1,v2,rfl,(ae ALL).1,(ae ALL).2.1,(ae ALL).2.2.1,(ae ALL).2.2.2⟩)
theorem zmh (X Y n:Nat) (hle:Y≤X) (h80:80≤(wd 18446744073709551616 Y).length) (hm:(wd 18446744073709551616 Y).length+80≤(wd 18446744073709551616 X).length) (hp:(wd 18446744073709551616 X).length≤(wd 18446744073709551616 Y).length+(wd 18446744073709551616 Y).length) (hn:n=((wd 18446744073709551616 X).length-(wd 18446744073709551616 Y).length)/2) (hl:(wd 18446744073709551616 X).length+(wd 18446744073709551616 Y).length+n<8388608) (hD1:xw (X / 18446744073709551616^n / 18446744073709551616^n) (Y / 18446744073709551616^n)) (hD2:xw (X / 18446744073709551616^n%Y) (Y / 18446744073709551616^n)):xw X Y:=by(
 intro vx vy w hx hy
 have hYn:0<Y / 18446744073709551616^n:=by
  have:=jd n Y
  rcases Nat.eq_zero_or_pos (Y / 18446744073709551616^n) with h | h
  ·rw[h,zk,List.length_nil] at this;omega
  ·exact h
 have hcmp:=wz vx vy X Y w hx hy (by omega) (by omega)
 have hc0:=zca hle
 generalize zn X Y=r at *
 have HC:=af hcmp
 have LD:=af (fun (W:World) (h1:Sl .u64 W vx (wd 18446744073709551616 X)) (h3:Sl .u64 W vy (wd 18446744073709551616 Y))=>zgx vx vy X Y n W h1 h3 hYn hD1 hD2 hl)
 have HX:=af hx
 have HY:=af hy
 obtain⟨a1,c1,rfl,-,-⟩:=hx
 obtain⟨a2,c2,rfl,-,-⟩:=hy
 clear hcmp hD1 hD2 hYn
 generalize (wd 18446744073709551616 X).length=nx at *
 generalize (wd 18446744073709551616 Y).length=ny at *
 have hr:decide (r<0)=false:=by simp;omega
 have e1:((nx:Int)-(ny:Int))/2=(n:Int):=by omega
 clear hn
 go_enter func255,ntmps255
 go_wp2_with fail
 refine (ae HC).mono ?_
 rintro e w1 ⟨rfl,q,rfl⟩
 go_wp2_with fail
 refine (ae LD _ (by exact ae HX) (by exact ae HY)).mono ?_
 rintro e w2 ⟨v1,v2,rfl,h1,h3,h4,h5⟩
 have ALL:=af (And.intro h1 (And.intro h3 (And.intro (((But.refl [] _).drewN q).trans' h4) (h5.pre (w:=w) (Nat.le_refl _)))))
 clear h1 h3 h4 h5 LD HC
 go_wp2
 go_ret2
 exact⟨v1,v2,rfl,(ae ALL).1,(ae ALL).2.1,(ae ALL).2.2.1,(ae ALL).2.2.2⟩)
theorem zqy (m:Nat):∀ X Y,(wd 18446744073709551616 X).length≤m→2≤(wd 18446744073709551616 Y).length→m+(wd 18446744073709551616 Y).length<2097152→xw X Y:=by(
 induction m with
 | zero =>
  intro X Y hX h2 hl
  have h0:X=0:=(zi (B:=18446744073709551616) (by omega) X).1 (by omega)
  have hY:0<Y:=by
   rcases Nat.eq_zero_or_pos Y with h | h
   ·subst h;rw[zk] at h2;simp at h2
   ·exact h
  exact zib X Y (by omega) (by omega)
 | succ m ih =>
  intro X Y hX h2 hl
  rcases Nat.lt_or_ge X Y with hlt | hge
  ·exact zib X Y hlt (by omega)
  ·by_cases hs:(wd 18446744073709551616 X).length<(wd 18446744073709551616 Y).length+80∨(wd 18446744073709551616 Y).length<80
   ·intro vx vy w hx hy
    exact (zos X Y h2 hge (by omega) hs vx vy w hx hy).mono fun e w' ⟨v1,v2,h1,h3,h4,h5,h6⟩=>⟨v1,v2,h1,h3,h4,h5,qp.zcq (h6 hge)⟩
   ·by_cases hp:(wd 18446744073709551616 Y).length+(wd 18446744073709551616 Y).length<(wd 18446744073709551616 X).length
    ·exact zot X Y hge (by omega) hp (by omega) (fun D hD=>ih D Y (by omega) h2 (by omega))
    ·obtain⟨n,hn⟩:∃ n,n=((wd 18446744073709551616 X).length-(wd 18446744073709551616 Y).length)/2:=⟨_,rfl⟩
     have l1:=jd n X
     have l2:=jd n (X / 18446744073709551616^n)
     have l3:=jd n Y
     have l4:(wd 18446744073709551616 (X / 18446744073709551616^n%Y)).length≤(wd 18446744073709551616 Y).length:=aq (Nat.le_of_lt (Nat.mod_lt _ (by
      rcases Nat.eq_zero_or_pos Y with h | h
      ·subst h;rw[zk] at h2;simp at h2
      ·exact h)))
     exact zmh X Y n hge (by omega) (by omega) (by omega) hn (by omega) (ih _ _ (by omega) (by omega) (by omega)) (ih _ _ (by omega) (by omega) (by omega)))
theorem zof (vx vy:Value) (X Y:Nat) (w:World) (hx:Sl .u64 w vx (wd 18446744073709551616 X)) (hy:Sl .u64 w vy (wd 18446744073709551616 Y)) (hY:0<Y) (hl:(wd 18446744073709551616 X).length<134217728) (hly:(wd 18446744073709551616 Y).length<134217728)
   (hD:2≤(wd 18446744073709551616 Y).length→Y≤X→xw (X*2^lz (zt Y)) (Y*2^lz (zt Y))) :
   Calls prog 198 #[vx,vy] w fun e w'=>∃ v1 v2,e=.returned (.tuple #[v1,v2])∧Sl .u64 w' v1 (wd 18446744073709551616 (X/Y))∧Sl .u64 w' v2 (wd 18446744073709551616 (X%Y))∧But [] w w'∧qp w vx w' v2:=by(
 have hcmp:=wz vx vy X Y w hx hy (by omega) (by omega)
 rcases Nat.lt_or_ge X Y with hlt | hge
 ·(
 rw[uj hlt] at hcmp
 rw[Nat.div_eq_of_lt hlt,Nat.mod_eq_of_lt hlt,zk]
 have HC:=af hcmp
 have HX:=af hx
 obtain⟨a1,c1,rfl,-,-⟩:=hx
 obtain⟨a2,c2,rfl,-,-⟩:=hy
 clear hcmp hD
 generalize (wd 18446744073709551616 X).length=nx at *
 generalize (wd 18446744073709551616 Y).length=ny at *
 go_enter func198,ntmps198
 go_wp2_with fail
 refine (ae HC).mono ?_
 rintro e w1 ⟨rfl,q,rfl⟩
 go_wp2
 go_ret2
 exact⟨_,_,rfl,Sl.nil _ _,ae HX,(But.refl _ _).drewN q,qp.self _ _ _⟩)
 ·(
 have hc0:=zca hge
 generalize zn X Y=r at *
 have hr:decide (r<0)=false:=by simp;omega
 have HC:=af hcmp
 have HX:=af hx
 have HY:=af hy
 rcases hy.open with ⟨e,-⟩|⟨hp,b2,o2,c2,rfl,hc2,-,hcell⟩
 ·rw[xx (by omega)] at e;omega
 obtain⟨a1,c1,rfl,-,-⟩:=hx
 by_cases h1:(wd 18446744073709551616 Y).length=1
 ·(
 have hYB:Y < 18446744073709551616:=by
  have:=ak (B:=18446744073709551616) (by omega) Y 1 (by omega)
  rw[Nat.pow_one] at this
  exact this
 have hc:=hcell 0 (by omega)
 rw[Nat.add_zero,zel Y hY hYB] at hc
 simp only[List.getElem?_cons_zero,Option.getD_some] at hc
 have HB:=af (fun (W:World) (h:Sl .u64 W (.slice a1 (wd 18446744073709551616 X).length c1) (wd 18446744073709551616 X))=>ztq _ X Y W h (by omega) hY hYB)
 have hmod:X%Y < 18446744073709551616:=Nat.lt_trans (Nat.mod_lt _ hY) hYB
 clear hcmp hD hcell hy
 generalize hnx:(wd 18446744073709551616 X).length=nx at *
 generalize hny:(wd 18446744073709551616 Y).length=ny at *
 clear hnx hny
 have e1:((ny:Int)==1)=true:=beq_iff_eq.2 (by omega)
 have hp1:(0:Int)<(ny:Int):=by omega
 have HE:=af h1
 clear h1
 go_enter func198,ntmps198
 go_wp2_with fail
 refine (ae HC).mono ?_
 rintro e w1 ⟨rfl,q,rfl⟩
 go_wp2_with fail
 refine (ae HB _ (by exact ae HX)).mono ?_
 rintro e w2 ⟨v1,rfl,hv1,hb2⟩
 have B2:Hid (But [] w w2):=((But.refl [] _).drewN q).trans' hb2
 have HV1:=af hv1
 clear hb2 hv1
 go_wp2_with fail
 refine (zaa (X%Y) hmod _).mono ?_
 rintro e w3 ⟨v2,rfl,hv2,hb3,ho3⟩
 have ALL:=af (And.intro ((ae HV1).ah hb3) (And.intro hv2 (And.intro ((ae B2).trans' hb3) (ho3.mono (ae B2).size))))
 clear hv2 hb3 ho3
 go_wp2
 go_ret2
 exact⟨v1,v2,rfl,(ae ALL).1,(ae ALL).2.1,(ae ALL).2.2.1,qp.zcq (ae ALL).2.2.2⟩)
 ·(
 obtain⟨t1,t2,-,-⟩:=zeq Y hY
 have hs:=(zai (zt Y) t1 t2).1
 have hDO:=hD (by omega) hge
 have hct:=hcell ((wd 18446744073709551616 Y).length-1) (by omega)
 have LZ:=af (fun W=>zkx (zt Y) t1 t2 W)
 have hnl:=zqi Y hY
 have hsl:=zno X (lz (zt Y)) hs
 rw[show (wd 18446744073709551616 Y)[(wd 18446744073709551616 Y).length-1]?.getD 0=zt Y from rfl] at hct
 have HL1:=af (fun (W:World) (h:Sl .u64 W (.slice a1 (wd 18446744073709551616 X).length c1) (wd 18446744073709551616 X))=>zhu _ X (lz (zt Y)) W h (by omega) hs)
 have HL2:=af (fun (W:World) (h:Sl .u64 W (.slice (some ⟨b2,o2,none⟩) (wd 18446744073709551616 Y).length c2) (wd 18446744073709551616 Y))=>zhu _ Y (lz (zt Y)) W h (by omega) hs)
 have hz:0<2^lz (zt Y):=Nat.pow_pos (by omega)
 have HDO:=af hDO
 unfold xw at HDO
 rw[Nat.mul_div_mul_right _ _ hz,Nat.mul_mod_mul_right] at HDO
 have hrl:(wd 18446744073709551616 (X%Y*2^lz (zt Y))).length<1073741824:=by
  have:=zno (X%Y) (lz (zt Y)) hs
  have h3:=aq (Nat.mod_le X Y)
  omega
 have HRR:=af (fun (v:Value) (W:World) (h:Sl .u64 W v (wd 18446744073709551616 (X%Y*2^lz (zt Y))))=>zoe v (X%Y*2^lz (zt Y)) (lz (zt Y)) W h hrl hs)
 rw[Nat.mul_div_cancel _ hz] at HRR
 clear hcmp hD hDO hcell hy hnl hsl hz
 generalize lz (zt Y)=s at *
 generalize zt Y=t at *
 generalize hnx:(wd 18446744073709551616 X).length=nx at *
 generalize hny:(wd 18446744073709551616 Y).length=ny at *
 clear hnx hny
 have e1:((ny:Int)==1)=false:=beq_eq_false_iff_ne.2 (by omega)
 go_enter func198,ntmps198
 go_wp2_with fail
 refine (ae HC).mono ?_
 rintro e w1 ⟨rfl,q,rfl⟩
 go_wp2_with fail
 refine (ae LZ _).mono ?_
 rintro e w1 ⟨rfl,hw⟩
 obtain rfl:=hw.symm
 clear hw
 go_wp2_with fail
 refine (ae HL1 _ (by exact ae HX)).mono ?_
 rintro e w2 ⟨v1,rfl,hv1,hb2,hp2⟩
 have B2:Hid (But [] w w2):=((But.refl [] _).drewN q).trans' hb2
 have HE1:Hid (qp w (.slice a1 nx c1) w2 v1):=by
  rcases hp2 with rfl | ho
  ·exact qp.self _ _ _
  ·exact (qp.zcq ho).pre (Nat.le_refl _)
 have HV1:=af hv1
 clear hb2 hv1 hp2
 go_wp2_with fail
 refine (ae HL2 _ ((ae HY).ah (ae B2))).mono ?_
 rintro e w3 ⟨v2,rfl,hv2,hb3,-⟩
 have B3:Hid (But [] w w3):=(ae B2).trans' hb3
 have HV2:=af hv2
 have HV1':=af ((ae HV1).ah hb3)
 have HE1':=af ((ae HE1).but (ae HV1) hb3)
 clear hv2 hb3 HV1 HE1
 go_wp2_with fail
 refine (ae HDO v1 v2 _ (ae HV1') (ae HV2)).mono ?_
 rintro e w4 ⟨v3,v4,rfl,hv3,hv4,hb4,he4⟩
 have B4:Hid (But [] w w4):=(ae B3).trans' hb4
 have H3:=af hv3
 have H4:=af hv4
 have HE4:=af ((ae HE1').trans (ae HV1') hb4 (ae B3).size he4)
 clear hv3 hv4 hb4 he4 HE1'
 go_wp2_with fail
 refine (ae HRR v4 _ (ae H4)).mono ?_
 rintro e w5 ⟨v5,rfl,hv5,hb5,hp5⟩
 have HE5:qp w (.slice a1 nx c1) w5 v5:=by
  rcases hp5 with rfl | ho
  ·exact (ae HE4).but (ae H4) hb5
  ·exact (qp.zcq ho).pre (ae B4).size
 have ALL:=af (And.intro ((ae H3).ah hb5) (And.intro hv5 (And.intro ((ae B4).trans' hb5) HE5)))
 clear hv5 hb5 hp5 HE5 HE4
 go_wp2
 go_ret2
 exact⟨v3,v5,rfl,(ae ALL).1,(ae ALL).2.1,(ae ALL).2.2.1,(ae ALL).2.2.2⟩)))
def Short (X _Y:Nat):Prop:=(wd 18446744073709551616 X).length≤1000000
theorem Short.of (X Y:Nat) (h:(wd 18446744073709551616 X).length≤1000000):Short X Y:=h
theorem zma (vx vy:Value) (X Y:Nat) (w:World) (hx:Sl .u64 w vx (wd 18446744073709551616 X)) (hy:Sl .u64 w vy (wd 18446744073709551616 Y)) (hY:0<Y) (hl:(wd 18446744073709551616 X).length<134217728) (hly:(wd 18446744073709551616 Y).length<134217728) (hs:Short X Y) :
  Calls prog 198 #[vx,vy] w fun e w'=>∃ v1 v2,e=.returned (.tuple #[v1,v2])∧Sl .u64 w' v1 (wd 18446744073709551616 (X/Y))∧Sl .u64 w' v2 (wd 18446744073709551616 (X%Y))∧But [] w w'∧qp w vx w' v2 :=
 zof vx vy X Y w hx hy hY hl hly (fun h2 hle=>by
  obtain⟨t1,t2,-,-⟩:=zeq Y hY
  have hz:=(zai (zt Y) t1 t2).1
  have h3:=zqi Y hY
  have h4:=zno X (lz (zt Y)) hz
  have h5:=aq hle
  unfold Short at hs
  exact zqy (wd 18446744073709551616 (X*2^lz (zt Y))).length _ _ (Nat.le_refl _) (by omega) (by omega))
theorem ui (v:Value) (f:Rat) (w:World) (hf:am w v f) :
   Calls prog 84 #[v] w fun e w'=>e=.returned (.int .i64 f.num.sign)∧But [] w w':=by(
 rcases hf with ⟨hp,hq,rfl⟩|⟨hbig,b,v1,v2,rfl,-,-,-,-⟩
 ·(
 by_cases hn:f.num<0
 ·(
 have e:f.num.sign=-1:=Int.sign_eq_neg_one_of_neg hn
 rw[e]
 have hd:decide (f.num<0)=true:=decide_eq_true hn
 rw[hd]
 generalize f.num.natAbs=p at *
 generalize f.den=q at *
 clear hn hd e
 go_enter func84,ntmps84
 go_wp2
 go_ret
 exact⟨rfl,(But.refl _ _).alloc _⟩)
 ·(
 have hd:decide (f.num<0)=false:=decide_eq_false hn
 rw[hd]
 rcases Nat.eq_zero_or_pos f.num.natAbs with h0 | h0
 ·(
 have e:f.num.sign=0:=by rw[Int.sign_eq_zero_iff_zero];omega
 rw[e,h0]
 generalize f.den=q at *
 clear hn hd e h0 hp
 go_enter func84,ntmps84
 go_wp2
 go_ret
 exact⟨rfl,(But.refl _ _).alloc _⟩)
 ·(
 have e:f.num.sign=1:=Int.sign_eq_one_of_pos (by omega)
 rw[e]
 generalize f.num.natAbs=p at *
 generalize f.den=q at *
 have n0:((p:Int)==0)=false:=beq_eq_false_iff_ne.2 (by omega)
 clear hn hd e
 go_enter func84,ntmps84
 go_wp2
 go_ret
 exact⟨rfl,(But.refl _ _).alloc _⟩)))
 ·(
 have hn0:f.num≠0:=by
  intro e0
  have e1:=f.reduced
  rw[e0,Int.natAbs_zero,Nat.coprime_zero_left] at e1
  rw[e0] at hbig
  simp at hbig
  omega
 by_cases hn:f.num<0
 ·(
 have e:f.num.sign=-1:=Int.sign_eq_neg_one_of_neg hn
 have hd:decide (f.num<0)=true:=decide_eq_true hn
 rw[e,hd]
 clear hn hd e hbig hn0
 go_enter func84,ntmps84
 go_wp2
 go_ret
 exact⟨rfl,(But.refl _ _).alloc _⟩)
 ·(
 have e:f.num.sign=1:=Int.sign_eq_one_of_pos (by omega)
 have hd:decide (f.num<0)=false:=decide_eq_false hn
 rw[e,hd]
 clear hn hd e hbig hn0
 go_enter func84,ntmps84
 go_wp2
 go_ret
 exact⟨rfl,(But.refl _ _).alloc _⟩)))
theorem am.agg {w:World} {v:Value} {f:Rat} (h:am w v f):∃ x y p,v=.agg #[.bool (decide (f.num<0)),.int .u64 x,.int .u64 y,.pointer p]∧(p=none→f.num.natAbs < 18446744073709551616∧f.den < 18446744073709551616∧x=(f.num.natAbs:Int)∧y=(f.den:Int)-1):=by(
 rcases h with ⟨h1,h2,rfl⟩|⟨-,b,v1,v2,rfl,-⟩
 ·exact⟨_,_,_,rfl,fun _=>⟨h1,h2,rfl,rfl⟩⟩
 ·exact⟨_,_,_,rfl,fun e=>by simp at e⟩)
end Go.Proofs.YtjlfllhedceigaaGreatDoor
