/- A whole number is divided by a word, as  -/
import Derived.Deep.RegionHeld
import Derived.Laws.Append
import Derived.OwnWalk
import Derived.WalkSpells
import Derived.Test.YtjlfllhedceigaaGreatDoorRN10
import Derived.Test.YtjlfllhedceigaaGreatDoorRN9
namespace Go.Proofs.YtjlfllhedceigaaGreatDoor
set_option linter.unusedVariables false
open Go.Proofs.Tryz
open Go.RowKit
set_option maxHeartbeats 8000000
set_option maxRecDepth 100000
structure zdd (xs rs:List Nat) (d k r:Nat):Prop where
 len:rs.length=xs.length
 mem:∀ x ∈ rs,x < 18446744073709551616
 lt:r<d
 val:vl 18446744073709551616 (xs.drop k)=d*vl 18446744073709551616 (rs.drop k)+r
theorem zdd.start (xs:List Nat) (d:Nat) (hd:0<d):zdd xs (List.replicate xs.length 0) d xs.length 0 :=
 ⟨by simp,fun x hx=>by rw[List.mem_replicate] at hx;omega,hd,by simp[vl]⟩
theorem zdd.step {xs rs:List Nat} {d i r:Nat} (h:zdd xs rs d (i+1) r) (hi:i<xs.length) (hx:xs[i]?.getD 0 < 18446744073709551616) (q r':Nat) (hq:(r * 18446744073709551616+xs[i]?.getD 0)/d=q) (hr:(r * 18446744073709551616+xs[i]?.getD 0)%d=r'):q < 18446744073709551616∧zdd xs (rs.set i q) d i r':=by(
 have hl:=h.lt
 have hd:0<d:=by omega
 have hqB:q < 18446744073709551616:=by
  rw[← hq,Nat.div_lt_iff_lt_mul hd,Nat.mul_comm]
  have:(r+1) * 18446744073709551616≤d * 18446744073709551616:=Nat.mul_le_mul_right _ hl
  omega
 refine⟨hqB,by rw[List.length_set];exact h.len,mem_set h.mem _ _ hqB,by rw[← hr];exact Nat.mod_lt _ hd,?_⟩
 rw[set_drop rs i q (by rw[h.len];exact hi),vl,jg 18446744073709551616 xs i hi,h.val]
 have:=Nat.div_add_mod (r * 18446744073709551616+xs[i]?.getD 0) d
 rw[hq,hr] at this
 generalize vl 18446744073709551616 (rs.drop (i+1))=V at *
 generalize xs[i]?.getD 0=x at *
 grind)
theorem zdd.fin {xs rs:List Nat} {d r:Nat} (h:zdd xs rs d 0 r):vl 18446744073709551616 rs=vl 18446744073709551616 xs/d∧r=vl 18446744073709551616 xs%d:=by(
 have h1:=h.val
 have hl:=h.lt
 simp only[List.drop_zero] at h1
 have hd:0<d:=by omega
 rw[h1]
 exact⟨by rw[Nat.mul_add_div hd,Nat.div_eq_of_lt hl,Nat.add_zero],by rw[Nat.mul_add_mod,Nat.mod_eq_of_lt hl]⟩)
theorem ztq (v:Value) (X d:Nat) (w:World) (hv:Sl .u64 w v (wd 18446744073709551616 X)) (hl:(wd 18446744073709551616 X).length<1073741824) (hd:0<d) (hdB:d < 18446744073709551616) :
   Calls prog 238 #[v,.int .u64 (d:Int)] w fun e w'=>∃ v',e=.returned (.tuple #[v',.int .u64 ((X%d:Nat):Int)])∧Sl .u64 w' v' (wd 18446744073709551616 (X/d))∧But [] w w':=by(
 have mm:=zo (B:=18446744073709551616) (by omega) X
 have em:=qh (B:=18446744073709551616) (by omega) X
 obtain⟨a,c,rfl,hc,hcell,-⟩:=hv
 generalize wd 18446744073709551616 X=xs at *
 subst em
 obtain⟨R,hR⟩:∃ R,R=vl 18446744073709551616 xs%d:=⟨_,rfl⟩
 rw[← hR]
 have HR:=af hR
 have hmk:=fun wx=>jy wx xs.length (by omega)
 have HC:=af hcell
 have MM:=af mm
 clear hcell mm hR
 go_enter func238,ntmps238
 go_wp2
 go_loopw [7,8] (fun r i wr=>∃ (k rN:Nat) (rs:List Nat),k≤xs.length∧i=.int .i64 ((k:Int)-1)∧r=.int .u64 rN∧rN<d∧rs.length=xs.length∧Hid (zdd xs rs d k rN∧But [] w wr∧Seg wr w.heap.size 0 rs)) (fun _ i _=>(intOf i+1).toNat)
 case atStart=>exact⟨xs.length,0,List.replicate xs.length 0,Nat.le_refl _,rfl,rfl,hd,by simp,zdd.start xs d hd,(But.refl _ _).alloc _,Seg.made _ _ _⟩
 case round =>(
 obtain⟨k,rN,rs,hk,rfl,rfl,hrN,hrl,HI⟩:=hrel
 rename World=>wr
 by_cases hk0:k=0
 ·(
 subst hk0
 have hsl:=(ae HI).2.2.sl xs.length (by omega)
 rw[hrl] at hsl
 have HSL:=af hsl
 have HF:=af (ae HI).1.fin
 have hln:rs.length<2147483648:=by omega
 clear hsl HC
 go_wp2_with fail
 refine (qa _ rs _ (ae HSL) (ae HI).1.mem hln).mono ?_
 rintro e w1 ⟨v1,rfl,hv1,hw,-⟩
 obtain rfl:=hw.symm
 clear hw
 rw[(ae HF).1] at hv1
 have HV1:=af hv1
 have er:Hid (rN=R):=by show _=_;rw[ae HR];exact (ae HF).2
 clear hv1
 go_wp2
 go_ret2
 exact⟨v1,by rw[← ae er];rfl,ae HV1,(ae HI).2.1⟩)
 ·(
 obtain⟨i,rfl⟩:∃ i,k=i+1:=⟨k-1,by omega⟩
 obtain⟨b,off,rfl,hci⟩:=ae HC i (by omega)
 have cx:=(ae HI).2.1.ag hci (by simp)
 have hxB:xs[i]?.getD 0 < 18446744073709551616:=bz (ae MM) (by omega) i
 obtain⟨cr,fr⟩:=(ae HI).2.2 i (by omega)
 rw[Nat.zero_add] at cr fr
 obtain⟨q,hq⟩:∃ q,(rN * 18446744073709551616+xs[i]?.getD 0)/d=q:=⟨_,rfl⟩
 obtain⟨r',hr'⟩:∃ r',(rN * 18446744073709551616+xs[i]?.getD 0)%d=r':=⟨_,rfl⟩
 obtain⟨hqB,hst⟩:=(ae HI).1.step (by omega) hxB q r' hq hr'
 have hr'd:r' < d:=hst.lt
 have ST:=af hst
 have DV:=af (zgy rN (xs[i]?.getD 0) d hdB hxB hrN wr q r' hq hr')
 have hset:=(ae HI).2.2.set i (by omega) q
 rw[Nat.zero_add] at hset
 have HSET:=af hset
 clear hset hst hci hq hr'
 generalize xs[i]?.getD 0=x at *
 generalize rs[i]?.getD 0=r0 at cr
 rw[show (((i+1:Nat):Int)-1)=(i:Int) from by omega]
 go_wp2_with fail
 refine (ae DV).mono ?_
 rintro e w1 ⟨rfl,n,rfl⟩
 go_wp2
 refine⟨⟨i,r',rs.set i q,by omega,rfl,rfl,hr'd,by rw[List.length_set];exact hrl,ae ST,((ae HI).2.1.drewN n).setCell (.inr (Nat.le_refl _)) _,?_⟩,?_⟩
 ·exact ae HSET
 ·simp[intOf])))
theorem qhz (a b:Nat):vl 18446744073709551616 [a,b]=a + 18446744073709551616*b:=by simp[vl]
theorem zyd (a:Nat):vl 18446744073709551616 [a]=a:=by simp[vl]
theorem qdt (ws:List Nat) (n:Nat) (h:ws.length=n+2):ws.drop n=[ws[n]?.getD 0,ws[n+1]?.getD 0]:=by
 rw[List.drop_eq_getElem_cons (by omega),List.drop_eq_getElem_cons (by omega),List.drop_eq_nil_of_le (by omega),List.getElem?_eq_getElem (by omega),List.getElem?_eq_getElem (by omega)]
 rfl
theorem drop_one (ws:List Nat) (n:Nat) (h:ws.length=n+1):ws.drop n=[ws[n]?.getD 0]:=by
 rw[List.drop_eq_getElem_cons (by omega),List.drop_eq_nil_of_le (by omega),List.getElem?_eq_getElem (by omega)]
 rfl
theorem zqu (vx vy:Value) (ws ys:List Nat) (m:Nat) (w:World) (hx:Sl .u64 w vx ws) (hy:Sl .u64 w vy ys) (hlw:ws.length=m+3) (hly:ys.length=m+2) (mw:∀ x ∈ ws,x < 18446744073709551616) (my:∀ x ∈ ys,x < 18446744073709551616) (hlt:vl 18446744073709551616 ws < 18446744073709551616*vl 18446744073709551616 ys) (hm:m<1073741824) :
   Calls prog 319 #[vx,vy] w fun e w'=>∃ q,e=.returned (.int .u64 (q:Nat))∧q < 18446744073709551616∧vl 18446744073709551616 ws<(q+1)*vl 18446744073709551616 ys∧∃ n,w'=w.drewN n:=by(
 rcases hx.open with ⟨e,-⟩|⟨-,b,off,c,rfl,hc,-,hcx⟩
 ·rw[e] at hlw;simp at hlw
 rcases hy.open with ⟨e,-⟩|⟨-,b',off',c',rfl,hc',-,hcy⟩
 ·rw[e] at hly;simp at hly
 have x2:=hcx (m+2) (by omega)
 have x1:=hcx (m+1) (by omega)
 have x0:=hcx m (by omega)
 have y1:=hcy (m+1) (by omega)
 have y0:=hcy m (by omega)
 have eR:=zbc 18446744073709551616 ws m (by omega)
 rw[qdt ws (m+1) (by omega),qhz] at eR
 have eY:=zbc 18446744073709551616 ys m (by omega)
 rw[drop_one ys (m+1) (by omega),zyd] at eY
 have hRl:=mg (by omega:0 < 18446744073709551616) (ws.take m) (fun x hx=>mw x (List.mem_of_mem_take hx))
 rw[List.length_take,Nat.min_eq_left (by omega)] at hRl
 have b2:=bz mw (by omega:0 < 18446744073709551616) (m+2)
 have b1:=bz mw (by omega:0 < 18446744073709551616) (m+1)
 have b0:=bz mw (by omega:0 < 18446744073709551616) m
 have d1:=bz my (by omega:0 < 18446744073709551616) (m+1)
 have d0:=bz my (by omega:0 < 18446744073709551616) m
 rw[show m+1+1=m+2 from rfl] at eR
 rw[hlw] at hc ⊢
 rw[hly] at hc' ⊢
 generalize ws[m+2]?.getD 0=X2 at *
 generalize ws[m+1]?.getD 0=X1 at *
 generalize ws[m]?.getD 0=X0 at *
 generalize ys[m+1]?.getD 0=F at *
 generalize ys[m]?.getD 0=S at *
 generalize vl 18446744073709551616 ws=R at *
 generalize vl 18446744073709551616 ys=Y at *
 have I0:Hid (∀ q r,X2 * 18446744073709551616+X1=q*F+r→r<F→R<(q+1)*Y):=fun q r e hr=>qfx X2 X1 X0 F S _ _ _ R Y q r eR eY hRl b0 e hr
 have I1:Hid (∀ q r,X2 * 18446744073709551616+X1=q*F+r→r * 18446744073709551616+X0<q*S→R<q*Y):=fun q r e hc=>qjp X2 X1 X0 F S _ _ _ R Y q r eR eY hRl e hc
 have HLT:=af hlt
 clear eR eY hRl hlt hcx hcy hx hy mw my hlw hly
 by_cases hge:F≤X2
 ·(
 go_enter func319,ntmps319
 go_wp2
 go_quiet (fail)
 go_wp2
 go_ret
 refine⟨18446744073709551615,rfl,by omega,?_,nq,rfl⟩
 exact ae HLT)
 ·(
 obtain⟨q,hq⟩:∃ q,(X2 * 18446744073709551616+X1)/F=q:=⟨_,rfl⟩
 obtain⟨r,hr⟩:∃ r,(X2 * 18446744073709551616+X1)%F=r:=⟨_,rfl⟩
 have hdm:=Nat.div_add_mod (X2 * 18446744073709551616+X1) F
 rw[hq,hr,Nat.mul_comm] at hdm
 have hrF:r<F:=by rw[← hr];exact Nat.mod_lt _ (by omega)
 have hqB:q < 18446744073709551616:=by
  rw[← hq,Nat.div_lt_iff_lt_mul (by omega),Nat.mul_comm]
  have:(X2+1) * 18446744073709551616≤F * 18446744073709551616:=Nat.mul_le_mul_right _ (by omega)
  omega
 have DV:=af (fun W=>zgy X2 X1 F d1 b1 (by omega) W q r hq hr)
 obtain⟨lo,hi,hlo,hhi,e0⟩:=bp q S 0 hqB d0 (by omega)
 rw[Nat.add_zero] at e0
 have MU:=af (fun W=>zdk q S hi lo hqB d0 hlo e0 W)
 have A0:Hid (X2 * 18446744073709551616+X1=q*F+r∧q*S=lo + 18446744073709551616*hi∧R<(q+1)*Y):=⟨hdm.symm,e0,ae I0 q r hdm.symm hrF⟩
 clear hdm e0 hq hr
 have hrB:r < 18446744073709551616:=by omega
 go_enter func319,ntmps319
 go_wp2
 go_quiet (fail)
 go_wp2
 obtain⟨W,hW⟩:∃ W,W=w.drewN nq:=⟨_,rfl⟩
 have k2:W.cell? ⟨b,off+(m+2),none⟩=some (.int .u64 (X2:Int)):=by rw[hW];exact x2
 have k1:W.cell? ⟨b,off+(m+1),none⟩=some (.int .u64 (X1:Int)):=by rw[hW];exact x1
 have k0:W.cell? ⟨b,off+m,none⟩=some (.int .u64 (X0:Int)):=by rw[hW];exact x0
 rw[← hW]
 have HW:=af hW
 clear hW x0 x1 x2 y0 y1
 go_quiet ((go_at_call 284;refine Calls.quiet_of (ae DV _)))
 go_wp2_with fail
 refine (ae MU _).mono ?_
 rintro e w1 ⟨rfl,hw⟩
 obtain rfl:=hw.symm
 clear hw
 go_wp2_with fail
 go_loop [8,9,10,11] (fun p1 p2 p3 p4=>∃ q r hi lo:Nat,p1=.int .u64 q∧p2=.int .u64 r∧p3=.int .u64 hi∧p4=.int .u64 lo∧q < 18446744073709551616∧r < 18446744073709551616∧hi < 18446744073709551616∧lo < 18446744073709551616∧Hid (X2 * 18446744073709551616+X1=q*F+r∧q*S=lo + 18446744073709551616*hi∧R<(q+1)*Y)) (fun p1 _ _ _=>(intOf p1).toNat)
 case atStart=>exact⟨q,r,hi,lo,rfl,rfl,rfl,rfl,hqB,hrB,hhi,hlo,A0⟩
 case round =>(
 clear A0 hrF DV MU hqB hrB hhi hlo
 obtain⟨q,r,hi,lo,rfl,rfl,rfl,rfl,hqB,hrB,hhi,hlo,HI⟩:=hrel
 by_cases hA:r<hi
 ·(
 have hq1:1≤q:=by
  rcases Nat.eq_zero_or_pos q with h | h
  ·subst h;have:=(ae HI).2.1;rw[Nat.zero_mul] at this;omega
  ·exact h
 have hRq:=ae I1 q r (ae HI).1 (by rw[(ae HI).2.1];omega)
 obtain⟨q',rfl⟩:∃ q',q=q' + 1:=⟨q-1,by omega⟩
 obtain⟨s,k,hs,hk,he⟩:=ic r F 0 hrB d1 (by omega)
 rw[Nat.add_zero] at he
 have AD:=fun w=>zoz r F hrB d1 s k he hs w
 obtain⟨l2,bw,hl2,hbw,he2⟩:=ol lo S 0 hlo d0 (by omega)
 rw[Nat.add_zero] at he2
 have SB:=fun w=>zrs lo S l2 bw he2 hl2 hlo d0 w
 have e4:=(ae HI).2.1
 rw[Nat.add_mul,Nat.one_mul] at e4
 have hbh:bw≤hi:=by omega
 obtain⟨h',hh'⟩:∃ h',h' + bw=hi:=⟨hi-bw,by omega⟩
 have e5:q' * S=l2 + 18446744073709551616*h':=by rw[← hh',Nat.mul_add] at e4;omega
 have e6:=(ae HI).1
 rw[Nat.add_mul,Nat.one_mul] at e6
 have HRQ:=af hRq
 have hk01:k=0∨k=1:=by omega
 rcases hk01 with rfl|rfl
 ·(
 have HN:Hid (X2 * 18446744073709551616+X1=q' * F+s∧q' * S=l2 + 18446744073709551616*h'∧R<(q' + 1)*Y):=⟨by omega,e5,hRq⟩
 have HH:=af hh'
 clear e4 e5 e6 he he2 hRq HI hh'
 go_wp2
 go_round
 case rel=>exact⟨q',s,h',l2,by go_num,rfl,congrArg (Value.int IntKind.u64) (by have:=ae HH;omega),rfl,by omega,hs,by have:=ae HH;omega,hl2,ae HN⟩
 case measure=>simp[intOf])
 ·(
 have HH:=af hh'
 clear e4 e5 e6 he he2 hRq HI hh'
 go_wp2
 go_ret
 exact⟨q',by go_num,by omega,ae HRQ,by rw[ae HW];exact dr1 _ _ _⟩))
 ·(
 have hA':hi≤r:=by omega
 by_cases hB:hi=r
 ·(
 have hB1:r≤hi:=by omega
 have hBt:((hi:Int)==(r:Int))=true:=beq_iff_eq.2 (by omega)
 clear hB
 by_cases hC:X0<lo
 ·(
 have hq1:1≤q:=by
  rcases Nat.eq_zero_or_pos q with h | h
  ·subst h;have:=(ae HI).2.1;rw[Nat.zero_mul] at this;omega
  ·exact h
 have hRq:=ae I1 q r (ae HI).1 (by rw[(ae HI).2.1];omega)
 obtain⟨q',rfl⟩:∃ q',q=q' + 1:=⟨q-1,by omega⟩
 obtain⟨s,k,hs,hk,he⟩:=ic r F 0 hrB d1 (by omega)
 rw[Nat.add_zero] at he
 have AD:=fun w=>zoz r F hrB d1 s k he hs w
 obtain⟨l2,bw,hl2,hbw,he2⟩:=ol lo S 0 hlo d0 (by omega)
 rw[Nat.add_zero] at he2
 have SB:=fun w=>zrs lo S l2 bw he2 hl2 hlo d0 w
 have e4:=(ae HI).2.1
 rw[Nat.add_mul,Nat.one_mul] at e4
 have hbh:bw≤hi:=by omega
 obtain⟨h',hh'⟩:∃ h',h' + bw=hi:=⟨hi-bw,by omega⟩
 have e5:q' * S=l2 + 18446744073709551616*h':=by rw[← hh',Nat.mul_add] at e4;omega
 have e6:=(ae HI).1
 rw[Nat.add_mul,Nat.one_mul] at e6
 have HRQ:=af hRq
 have hk01:k=0∨k=1:=by omega
 rcases hk01 with rfl|rfl
 ·(
 have HN:Hid (X2 * 18446744073709551616+X1=q' * F+s∧q' * S=l2 + 18446744073709551616*h'∧R<(q' + 1)*Y):=⟨by omega,e5,hRq⟩
 have HH:=af hh'
 clear e4 e5 e6 he he2 hRq HI hh'
 go_wp2
 go_round
 case rel=>exact⟨q',s,h',l2,by go_num,rfl,congrArg (Value.int IntKind.u64) (by have:=ae HH;omega),rfl,by omega,hs,by have:=ae HH;omega,hl2,ae HN⟩
 case measure=>simp[intOf])
 ·(
 have HH:=af hh'
 clear e4 e5 e6 he he2 hRq HI hh'
 go_wp2
 go_ret
 exact⟨q',by go_num,by omega,ae HRQ,by rw[ae HW];exact dr1 _ _ _⟩))
 ·have hC':lo≤X0:=by omega
  go_wp2
  go_ret
  exact⟨q,rfl,hqB,(ae HI).2.2,by rw[ae HW];exact dr1 _ _ _⟩)
 ·have hB':((hi:Int)==(r:Int))=false:=beq_eq_false_iff_ne.2 (by omega)
  go_wp2
  go_ret
  exact⟨q,rfl,hqB,(ae HI).2.2,by rw[ae HW];exact dr1 _ _ _⟩))))
structure r9 (X Y nx n:Nat) (rs qs:List Nat) (k:Nat):Prop where
 lr:rs.length=nx+1
 lq:qs.length=nx+1-n
 mr:∀ x ∈ rs,x < 18446744073709551616
 mq:∀ x ∈ qs,x < 18446744073709551616
 lt:vl 18446744073709551616 rs<Y * 18446744073709551616^k
 val:X=vl 18446744073709551616 rs+Y*vl 18446744073709551616 qs
 zero:∀ j,j<k→qs[j]?.getD 0=0
theorem dz (rs:List Nat) (i:Nat) (h:i≤rs.length):vl 18446744073709551616 rs=vl 18446744073709551616 (rs.take i) + 18446744073709551616^i*vl 18446744073709551616 (rs.drop i):=by(
 have:=congrArg (vl 18446744073709551616) (List.take_append_drop i rs)
 rw[zq,List.length_take,Nat.min_eq_left h] at this
 exact this.symm)
theorem zdz (rs:List Nat) (i:Nat) (h:i≤rs.length) (hm:∀ x ∈ rs,x < 18446744073709551616):vl 18446744073709551616 (rs.take i) < 18446744073709551616^i:=by(
 have:=mg (by omega:0 < 18446744073709551616) (rs.take i) (fun x hx=>hm x (List.mem_of_mem_take hx))
 rw[List.length_take,Nat.min_eq_left h] at this
 exact this)
theorem zlo (rs:List Nat) (i:Nat) (h:i≤rs.length) (hs:vl 18446744073709551616 rs < 18446744073709551616^i):vl 18446744073709551616 (rs.drop i)=0:=by(
 rw[dz rs i h] at hs
 rcases Nat.eq_zero_or_pos (vl 18446744073709551616 (rs.drop i)) with h0 | h0
 ·exact h0
 ·have:=Nat.le_mul_of_pos_right (18446744073709551616^i) h0
  omega)
theorem r9.win {X Y nx n:Nat} {rs qs:List Nat} {i:Nat} (h:r9 X Y nx n rs qs (i+1)) (hY:Y < 18446744073709551616^n) (hi:i+n<rs.length) :
   vl 18446744073709551616 ((rs.drop i).take (n+1))=vl 18446744073709551616 (rs.drop i)∧vl 18446744073709551616 (rs.drop i) < 18446744073709551616*Y∧vl 18446744073709551616 (rs.drop i)=vl 18446744073709551616 ((rs.drop i).take n)+rs[i+n]?.getD 0 * 18446744073709551616^n:=by(
 have hD:=dz rs i (by omega)
 have hlt:=h.lt
 have h1:vl 18446744073709551616 (rs.drop i) < 18446744073709551616*Y:=by
  have:18446744073709551616^i*vl 18446744073709551616 (rs.drop i) < 18446744073709551616^i*(18446744073709551616*Y):=by
   have e:Y * 18446744073709551616^(i+1)=18446744073709551616^i*(18446744073709551616*Y):=by rw[Nat.pow_succ,Nat.mul_comm Y,Nat.mul_assoc]
   rw[← e];omega
  exact Nat.lt_of_mul_lt_mul_left this
 have h2:vl 18446744073709551616 (rs.drop i) < 18446744073709551616^(n+1):=by
  rw[Nat.pow_succ,Nat.mul_comm]
  exact Nat.lt_of_lt_of_le h1 (Nat.mul_le_mul_left _ (Nat.le_of_lt hY))
 have hl:(rs.drop i).length=rs.length-i:=List.length_drop
 have h3:vl 18446744073709551616 ((rs.drop i).drop (n+1))=0:=zlo _ _ (by omega) h2
 have h4:=dz (rs.drop i) (n+1) (by omega)
 rw[h3,Nat.mul_zero,Nat.add_zero] at h4
 refine⟨h4.symm,h1,?_⟩
 have h5:=qw 18446744073709551616 (rs.drop i) n (by omega)
 rw[List.getElem?_drop] at h5
 rw[h4,h5])
theorem r9.step {X Y nx n:Nat} {rs qs:List Nat} {i:Nat} (h:r9 X Y nx n rs qs (i+1)) (hY:Y < 18446744073709551616^n) (hi:i+n<rs.length) (hiq:i<qs.length) (vs:List Nat) (q:Nat) (hl:vs.length=n) (hm:∀ x ∈ vs,x < 18446744073709551616) (hq:q < 18446744073709551616) (hv:vl 18446744073709551616 vs+q*Y=vl 18446744073709551616 (rs.drop i)) (hvY:vl 18446744073709551616 vs<Y) :
   r9 X Y nx n ((rs.take i++vs++rs.drop (i+n)).set (i+n) 0) (qs.set i q) i:=by(
 obtain⟨h1,h2,h3⟩:=h.win hY hi
 have lt:(rs.take i).length=i:=by rw[List.length_take];omega
 have lw:(rs.take i++vs).length=i+n:=by rw[List.length_append,lt,hl]
 have ll:(rs.take i++vs++rs.drop (i+n)).length=rs.length:=by rw[List.length_append,lw,List.length_drop];omega
 have hd:vl 18446744073709551616 (rs.drop (i+n))=rs[i+n]?.getD 0:=by
  have e1:=dz (rs.drop i) n (by rw[List.length_drop];omega)
  rw[List.drop_drop] at e1
  rw[e1] at h3
  have:18446744073709551616^n*vl 18446744073709551616 (rs.drop (i+n))=rs[i+n]?.getD 0 * 18446744073709551616^n:=by omega
  rw[Nat.mul_comm] at this
  exact Nat.eq_of_mul_eq_mul_right (Nat.pow_pos (by omega)) this
 have hg:(rs.take i++vs++rs.drop (i+n))[i+n]?.getD 0=rs[i+n]?.getD 0:=by
  rw[List.getElem?_append_right (by omega),lw,List.getElem?_drop,show i+n+(i+n-(i+n))=i+n from by omega]
 have hset:=x9 18446744073709551616 (rs.take i++vs++rs.drop (i+n)) (i+n) 0 (by omega)
 rw[hg,Nat.zero_mul,Nat.add_zero,zq,lw,hd,zq,lt] at hset
 have hval:vl 18446744073709551616 ((rs.take i++vs++rs.drop (i+n)).set (i+n) 0)=vl 18446744073709551616 (rs.take i) + 18446744073709551616^i*vl 18446744073709551616 vs:=by
  rw[Nat.mul_comm (18446744073709551616^(i+n))] at hset
  omega
 have hq0:=h.zero i (by omega)
 have hqs:=x9 18446744073709551616 qs i q hiq
 rw[hq0,Nat.zero_mul,Nat.add_zero] at hqs
 have hD:=dz rs i (by omega)
 have htl:=zdz rs i (by omega) h.mr
 refine⟨by rw[List.length_set,ll];exact h.lr,by rw[List.length_set];exact h.lq,mem_set ?_ _ _ (by omega),mem_set h.mq _ _ hq,?_,?_,?_⟩
 ·(
 intro x hx
 simp only[List.mem_append] at hx
 rcases hx with (hx | hx) | hx
 ·exact h.mr x (List.mem_of_mem_take hx)
 ·exact hm x hx
 ·exact h.mr x (List.mem_of_mem_drop hx))
 ·(
 rw[hval]
 have:18446744073709551616^i*(vl 18446744073709551616 vs+1)≤18446744073709551616^i*Y:=Nat.mul_le_mul_left _ hvY
 rw[Nat.mul_add,Nat.mul_one] at this
 rw[Nat.mul_comm Y]
 omega)
 ·(
 rw[hval,hqs,h.val,hD,← hv]
 generalize vl 18446744073709551616 (rs.take i)=a
 generalize vl 18446744073709551616 vs=b
 generalize vl 18446744073709551616 qs=c
 generalize 18446744073709551616^i=P
 grind)
 ·intro j hj
  rw[List.getElem?_set_ne (by omega)];exact h.zero j (by omega))
theorem r9.fin {X Y nx n:Nat} {rs qs:List Nat} (h:r9 X Y nx n rs qs 0):vl 18446744073709551616 qs=X/Y∧vl 18446744073709551616 rs=X%Y:=by(
 have h1:=h.lt
 rw[Nat.pow_zero,Nat.mul_one] at h1
 have hY:0<Y:=by omega
 rw[h.val]
 exact⟨by rw[Nat.add_comm,Nat.mul_add_div hY,Nat.div_eq_of_lt h1,Nat.add_zero],by rw[Nat.add_comm,Nat.mul_add_mod,Nat.mod_eq_of_lt h1]⟩)
structure zha (D Y n:Nat) (vs:List Nat) (q M:Nat):Prop where
 len:vs.length=n
 mem:∀ x ∈ vs,x < 18446744073709551616
 qb:q < 18446744073709551616
 mb:M < 18446744073709551616
 val:vl 18446744073709551616 vs+q*Y=D+M * 18446744073709551616^n
 hi:D<(q+1)*Y
theorem zha.start (D Y n t:Nat) (vs0 vs:List Nat) (q c:Nat) (hY:Y < 18446744073709551616^n) (h0:D=vl 18446744073709551616 vs0+t * 18446744073709551616^n) (hl:vs.length=n) (hm:∀ x ∈ vs,x < 18446744073709551616) (hq:q < 18446744073709551616) (hc:c < 18446744073709551616) (hv:vl 18446744073709551616 vs+q*Y=vl 18446744073709551616 vs0+c * 18446744073709551616^n) (hh:D<(q+1)*Y):t≤c∧zha D Y n vs q (c-t):=by(
 have htc:t≤c:=by
  rcases Nat.lt_or_ge c t with h | h
  ·exfalso
   have h1:(c+1) * 18446744073709551616^n≤t * 18446744073709551616^n:=Nat.mul_le_mul_right _ h
   rw[Nat.add_mul,Nat.one_mul] at h1 hh
   omega
  ·exact h
 refine⟨htc,hl,hm,hq,by omega,?_,hh⟩
 rw[h0,Nat.sub_mul]
 have:t * 18446744073709551616^n≤c * 18446744073709551616^n:=Nat.mul_le_mul_right _ htc
 omega)
theorem zha.pos {D Y n:Nat} {vs:List Nat} {q M:Nat} (h:zha D Y n vs q M) (hM:0<M):0<q∧D<q*Y:=by(
 have h1:=mg (by omega:0 < 18446744073709551616) vs h.mem
 rw[h.len] at h1
 have h2:=h.val
 have h3:18446744073709551616^n≤M * 18446744073709551616^n:=Nat.le_mul_of_pos_left _ hM
 refine⟨?_,by omega⟩
 rcases Nat.eq_zero_or_pos q with h0 | h0
 ·subst h0;rw[Nat.zero_mul] at h2;omega
 ·exact h0)
theorem zha.step {D Y n:Nat} {vs:List Nat} {q M:Nat} (h:zha D Y n vs (q+1) (M+1)) (vs':List Nat) (k:Nat) (hk:k≤1) (hl:vs'.length=n) (hm:∀ x ∈ vs',x < 18446744073709551616) (hv:vl 18446744073709551616 vs' + k * 18446744073709551616^n=vl 18446744073709551616 vs+Y):zha D Y n vs' q (M+1-k):=by(
 have hp:=h.pos (by omega)
 have h1:=h.qb
 have h2:=h.mb
 have h3:=h.val
 refine⟨hl,hm,by omega,by omega,?_,hp.2⟩
 rw[Nat.sub_mul]
 have:k * 18446744073709551616^n≤(M+1) * 18446744073709551616^n:=Nat.mul_le_mul_right _ (by omega)
 rw[Nat.add_mul q 1,Nat.one_mul] at h3
 omega)
theorem zha.fin {D Y n:Nat} {vs:List Nat} {q:Nat} (h:zha D Y n vs q 0):vl 18446744073709551616 vs+q*Y=D∧vl 18446744073709551616 vs<Y:=by(
 have h1:=h.val
 have h2:=h.hi
 rw[Nat.zero_mul,Nat.add_zero] at h1
 rw[Nat.add_mul,Nat.one_mul] at h2
 exact⟨h1,by omega⟩)
theorem r9.start (X Y nx n:Nat) (hx:(wd 18446744073709551616 X).length=nx) (hy:(wd 18446744073709551616 Y).length=n) (hn:0<n) (hle:n≤nx):r9 X Y nx n (wd 18446744073709551616 X++[0]) (List.replicate (nx+1-n) 0) (nx+1-n):=by(
 refine⟨by simp[hx],by simp,?_,fun x hx=>by rw[List.mem_replicate] at hx;omega,?_,by rw[ig,qh (by omega),qy,Nat.mul_zero,Nat.add_zero],fun j _=>by rw[List.getElem?_replicate];split <;> rfl⟩
 ·intro x hx
  rcases List.mem_append.1 hx with h | h
  ·exact zo (by omega) X x h
  ·simp at h;omega
 ·(
 rw[ig,qh (by omega)]
 have h1:=zct X
 rw[hx] at h1
 have h2:18446744073709551616^(n-1)≤Y:=by
  rcases Nat.lt_or_ge Y (18446744073709551616^(n-1)) with h | h
  ·have:=aj (B:=18446744073709551616) (by omega) Y (n-1) h
   omega
  ·exact h
 have h3:18446744073709551616^nx=18446744073709551616^(n-1) * 18446744073709551616^(nx+1-n):=by rw[← Nat.pow_add];congr 1;omega
 exact Nat.lt_of_lt_of_le h1 (by rw[h3];exact Nat.mul_le_mul_right _ h2)))
theorem zps (wx:World) (nx n:Nat) (h:nx<1073741824) (hn:n≤nx):(Instr.makeSlice 110 (.int .i64 ((nx:Int)-(n:Int)+1)) (.int .i64 ((nx:Int)-(n:Int)+1))).run prog wx=.ok (.slice (some ⟨wx.heap.size,0,none⟩) (nx+1-n) (nx+1-n)) (wx.alloc (.cells (madeCells #[.int .u64 0] (nx+1-n)) 24)):=by(
 have:=jy wx (nx+1-n) (by omega)
 rw[show ((nx+1-n:Nat):Int)=(nx:Int)-(n:Int)+1 from by omega] at this
 exact this)
theorem zhe (g o cap l i n:Nat) (hi:i<cap) (hn:i+n≤cap) (hc:cap<1073741824) (W:World):(Instr.slice 110 (.slice (some ⟨g,o,none⟩) l cap) (some (.int .i64 (i:Int))) (some (.int .i64 ((i:Int)+(n:Int)))) none).run prog W=.ok (.slice (some ⟨g,o+i,none⟩) n (cap-i)) W:=by(
 have h1:(0:Int)≤(i:Int):=by omega
 have h2:(i:Int)≤(i:Int)+(n:Int):=by omega
 have h3:(i:Int)+(n:Int)≤(cap:Int):=by omega
 have h4:(i:Int)<(cap:Int):=by omega
 have hu:=underlying110
 go_simp
 exact⟨by omega,by omega⟩)
theorem zlr (g o cap l i n:Nat) (hi:i<cap) (hn:i+n≤cap) (hc:cap<1073741824) (W:World):(Instr.sliceAt 110 (.slice (some ⟨g,o,none⟩) l cap) (some (.int .i64 (i:Int))) (some (.int .i64 ((i:Int)+(n:Int)))) none).run prog W=.ok (.slice (some ⟨g,o+i,none⟩) n (cap-i)) W:=by(
 rw[run_sliceAt_slice]
 ·exact zhe g o cap l i n hi hn hc W
 ·kernel_rfl)
theorem zgp (vx vy:Value) (X Y:Nat) (w:World) (hx:Sl .u64 w vx (wd 18446744073709551616 X)) (hy:Sl .u64 w vy (wd 18446744073709551616 Y)) (h2:2≤(wd 18446744073709551616 Y).length) (hle:(wd 18446744073709551616 Y).length≤(wd 18446744073709551616 X).length) (hl:(wd 18446744073709551616 X).length<268435456) :
   Calls prog 295 #[vx,vy] w fun e w'=>∃ v1 v2,e=.returned (.tuple #[v1,v2])∧Sl .u64 w' v1 (wd 18446744073709551616 (X/Y))∧Sl .u64 w' v2 (wd 18446744073709551616 (X%Y))∧But [] w w'∧Own w.heap.size w' v2∧sw w.heap.size v1:=by(
 obtain⟨a1,c1,rfl,hc1,-⟩:=id hx
 rcases hy.open with ⟨e,-⟩|⟨-,b2,o2,c2,rfl,hc2,hb2,-⟩
 ·rw[e] at h2;simp at h2
 have hYp:=zct Y
 have MY:=af (zo (B:=18446744073709551616) (by omega) Y)
 have VY:=af (qh (B:=18446744073709551616) (by omega) Y)
 obtain⟨w2,hcp,HC⟩:=qz (P:=prog) (w.alloc (.cells (madeCells #[.int .u64 0] ((wd 18446744073709551616 X).length+1)) 24)) 110 111 24 underlying110 dw w.heap.size 0 ((wd 18446744073709551616 X).length+1) ((wd 18446744073709551616 X).length+1) _ (List.replicate ((wd 18446744073709551616 X).length+1) 0) (wd 18446744073709551616 X) (Seg.made _ _ _) (by simp) (hx.ah (jr _ _ _)) (by simp)
 have e1:wd 18446744073709551616 X++(List.replicate ((wd 18446744073709551616 X).length+1) 0).drop (wd 18446744073709551616 X).length=wd 18446744073709551616 X++[0]:=by rw[List.drop_replicate,show (wd 18446744073709551616 X).length+1-(wd 18446744073709551616 X).length=1 from by omega];rfl
 rw[e1] at HC
 have hst:=r9.start X Y (wd 18446744073709551616 X).length (wd 18446744073709551616 Y).length rfl rfl (by omega) hle
 have hB2:But [] w w2:=((jr w ((wd 18446744073709551616 X).length+1) 24).trans (ae HC).2.but (fun x hx=>by simp at hx;subst hx;exact .inr (Nat.le_refl _)))
 have hg:w.heap.size<w2.heap.size:=Nat.lt_of_lt_of_le (by simp) (ae HC).2.but.size
 have hmk1:=fun wx=>zcl wx (wd 18446744073709551616 X).length (by omega)
 have hmk2:=fun wx=>zps wx (wd 18446744073709551616 X).length (wd 18446744073709551616 Y).length (by omega) hle
 have hyo:Off w.heap.size (.slice (some ⟨b2,o2,none⟩) (wd 18446744073709551616 Y).length c2):=fun b off n c e=>by
  simp only[Value.slice.injEq,Option.some.injEq,Addr.mk.injEq] at e
  obtain⟨⟨rfl,-⟩,-⟩:=e
  omega
 have hs0:=(ae HC).1
 generalize hxs:wd 18446744073709551616 X++[0]=r0 at *
 clear hxs e1
 have HY:=af hy
 have HYO:=af hyo
 have A0:=af (And.intro hst (And.intro hB2 hs0))
 have HYP:=af hYp
 clear hx hy HC hst hs0 hyo hYp
 generalize hnx:(wd 18446744073709551616 X).length=nx at *
 generalize hys:wd 18446744073709551616 Y=ys at *
 generalize hn:ys.length=n at *
 have HN:=af hn
 clear hnx hys hn
 have A1:Hid (r9 X Y nx n r0 (List.replicate (nx+1-n) 0) (nx+1-n)∧But [] w (w2.alloc (.cells (madeCells #[.int .u64 0] (nx+1-n)) 24))∧Seg (w2.alloc (.cells (madeCells #[.int .u64 0] (nx+1-n)) 24)) w.heap.size 0 r0∧Seg (w2.alloc (.cells (madeCells #[.int .u64 0] (nx+1-n)) 24)) w2.heap.size 0 (List.replicate (nx+1-n) 0)) :=
  ⟨(ae A0).1,hB2.alloc _,(ae A0).2.2.but (l:=[]) ((But.refl _ _).alloc _) (by simp),Seg.made _ _ _⟩
 have HG:=af hg
 clear A0 hB2 hg hb2
 go_enter func295,ntmps295
 go_wp2
 go_loopw [9] (fun i wr=>∃ (k:Nat) (rs qs:List Nat),k≤nx+1-n∧i=.int .i64 ((k:Int)-1)∧rs.length=nx+1∧qs.length=nx+1-n∧Hid (r9 X Y nx n rs qs k∧But [] w wr∧Seg wr w.heap.size 0 rs∧Seg wr w2.heap.size 0 qs)) (fun i _=>(intOf i+1).toNat)
 case atStart=>exact⟨nx+1-n,r0,List.replicate (nx+1-n) 0,Nat.le_refl _,by go_num,(ae A1).1.lr,by simp,A1⟩
 case round =>(
 clear A1
 obtain⟨k,rs,qs,hk,rfl,hlr,hlq,HI⟩:=hrel
 rename World=>wr
 by_cases hk0:k=0
 ·(
 subst hk0
 obtain⟨hI,hB,hsr,hsq⟩:=ae HI
 have sq:=hsq.sl (nx+1-n) (by omega)
 have sr:=hsr.sl (nx+1) (by omega)
 rw[hlq] at sq
 rw[hlr] at sr
 have HSQ:=af sq
 have HSR:=af sr
 have HF:=af hI.fin
 have hlq2:qs.length<2147483648:=by omega
 have hlr2:rs.length<2147483648:=by omega
 clear sq sr hI hB hsr hsq HY
 go_wp2_with fail
 refine (qa _ qs _ (ae HSQ) (ae HI).1.mq hlq2).mono ?_
 rintro e w3 ⟨v1,rfl,hv1,hw,hsb1⟩
 obtain rfl:=hw.symm
 clear hw
 have hfr:=dx hsb1 (Nat.le_of_lt (ae HG))
 rw[(ae HF).1] at hv1
 have HV1:=af hv1
 have HFR:=af hfr
 clear hv1 hsb1 hfr
 go_wp2_with fail
 refine (qa _ rs _ (ae HSR) (ae HI).1.mr hlr2).mono ?_
 rintro e w3 ⟨v2,rfl,hv2,hw,hsb2⟩
 obtain rfl:=hw.symm
 clear hw
 have hown:=zob (lo:=w.heap.size) (ae HI).2.2.1 hsb2 hv2 (aj (B:=18446744073709551616) (by omega) (vl 18446744073709551616 rs) rs.length (mg (by omega) rs (ae HI).1.mr)) (Nat.le_refl _)
 rw[(ae HF).2] at hv2
 have HV2:=af hv2
 have HOW:=af hown
 clear hv2 hsb2 hown
 go_wp2
 go_ret2
 exact⟨v1,v2,rfl,ae HV1,ae HV2,(ae HI).2.1,ae HOW,ae HFR⟩)
 ·(
 obtain⟨i,rfl⟩:∃ i,k=i+1:=⟨k-1,by omega⟩
 have hin:i+n<rs.length:=by omega
 obtain⟨hw1,hw2,hw3⟩:=(ae HI).1.win (ae HYP) hin
 have hsub:=(ae HI).2.2.1.sub i (n+1) (by omega)
 have lsub:((rs.drop i).take (n+1)).length=n+1:=by rw[List.length_take,List.length_drop];omega
 have hsl:=hsub.sl (nx+1-i) (by rw[lsub];omega)
 rw[lsub,Nat.zero_add] at hsl
 obtain⟨m,hm⟩:∃ m,n=m+2:=⟨n-2,by omega⟩
 have HGS:=af (zqu _ _ _ _ m wr hsl ((ae HY).ah (ae HI).2.1) (by rw[lsub,hm]) (by rw[ae HN,hm]) (fun x hx=>(ae HI).1.mr x (List.mem_of_mem_drop (List.mem_of_mem_take hx))) (ae MY) (by rw[hw1,ae VY];exact hw2) (by omega))
 rw[hw1,ae VY] at HGS
 have hsv:=(ae HI).2.2.1.sub i n (by omega)
 have lsv:((rs.drop i).take n).length=n:=by rw[List.length_take,List.length_drop];omega
 rw[Nat.zero_add] at hsv
 have msv:∀ x ∈ (rs.drop i).take n,x < 18446744073709551616:=fun x hx=>(ae HI).1.mr x (List.mem_of_mem_drop (List.mem_of_mem_take hx))
 obtain⟨ct,ft⟩:=(ae HI).2.2.1 (i+n) hin
 rw[Nat.zero_add] at ct ft
 have htB:rs[i+n]?.getD 0 < 18446744073709551616:=bz (ae HI).1.mr (by omega) _
 have ST:=af (fun vs q h1 h2 h3 h4 h5=>(ae HI).1.step (ae HYP) hin (by omega) vs q h1 h2 h3 h4 h5)
 have hyW:=(ae HY).ah (ae HI).2.1
 have HSU:=af (fun (W:World) (q:Nat) (hq:q < 18446744073709551616) (hS:Seg W w.heap.size i ((rs.drop i).take n)) (hyS:Sl .u64 W (.slice (some ⟨b2,o2,none⟩) n c2) ys)=>znm w.heap.size i (nx+1-i) ((rs.drop i).take n) ys (.slice (some ⟨b2,o2,none⟩) n c2) q W hS (by rw[lsv];omega) hyS (fun _=>ae HYO) msv (ae MY) hq (by rw[lsv,ae HN]) (by rw[lsv];omega))
 rw[lsv,ae VY] at HSU
 have MST:=af (fun vs q c=>zha.start (vl 18446744073709551616 (rs.drop i)) Y n (rs[i+n]?.getD 0) ((rs.drop i).take n) vs q c (ae HYP) hw3)
 have FT:=af ft
 clear ft
 obtain⟨cq,fq⟩:=(ae HI).2.2.2 i (by omega)
 rw[Nat.zero_add] at cq fq
 have CQ:=af cq
 have FQ:=af fq
 clear cq fq
 have HSV:=af hsv
 have HYW:=af hyW
 have HWH:=af (fun (W1:World) (vs:List Nat) (hp:Part w.heap.size i n wr W1) (hsg:Seg W1 w.heap.size i vs) (hl:vs.length=n)=>(ae HI).2.2.1.whole hp hsg hl (by omega))
 clear hw1 hw2 hw3 hsub lsub hsl hsv lsv msv hyW hm
 generalize rs[i+n]?.getD 0=t at *
 generalize vl 18446744073709551616 (rs.drop i)=D at *
 rw[show (((i+1:Nat):Int)-1)=(i:Int) from by omega]
 go_wp2_with fail
 rw[show i+n+1-i=n+1 from by omega]
 refine (ae HGS).mono ?_
 rintro e w3 ⟨q,rfl,hq,hDq,dn,hw⟩
 obtain⟨W,hW⟩:∃ W,W=w3:=⟨_,rfl⟩
 have hct:W.cell? ⟨w.heap.size,i+n,none⟩=some (.int .u64 (t:Int)):=by rw[hW,hw];exact ct
 have HPW:Hid (Part w.heap.size i n wr W):=by show Part _ _ _ _ _;rw[hW,hw];exact (Part.refl _ _ _ _).drewN dn
 have HSW:Hid (Seg W w.heap.size i ((rs.drop i).take n)):=by show Seg _ _ _ _;rw[hW,hw];exact ae HSV
 have HYW2:Hid (Sl .u64 W (.slice (some ⟨b2,o2,none⟩) n c2) ys):=by show Sl _ _ _ _;rw[hW,hw];exact ae HYW
 rw[← hW]
 clear hW hw HGS HSV HYW
 have HDQ:=af hDq
 have CT:=af ct
 clear hDq ct
 have hsl1:=fun W=>zhe w.heap.size 0 (nx+1) (nx+1) i n (by omega) (by omega) (by omega) W
 have hsl2:=fun W=>zlr w.heap.size 0 (nx+1) (nx+1) i n (by omega) (by omega) (by omega) W
 rw[Nat.zero_add] at hsl1 hsl2
 have hwr:IntKind.i64.wrap ((i:Int)+(n:Int))=(i:Int)+(n:Int):=by rw[IntKind.wrap_i64];omega
 have htn:((i:Int)+(n:Int)).toNat=i+n:=by omega
 have i2:(i:Int)+(n:Int)<(nx:Int)+1:=by omega
 have i6:(0:Int)≤(i:Int)+(n:Int):=by omega
 go_wp2
 go_region_held (fun w'=>w'.cell? ⟨w.heap.size,i+n,none⟩=some (.int .u64 (t:Int))) (go_keep) (first
  | (go_at_call 320;refine (ae HSU _ q hq (by exact ae HSW) (by exact ae HYW2)).mono ?_;rintro e w4 ⟨c,vs,rfl,hcB,hlv,hmv,hvv,hsg,hpt⟩;have k4:=(hpt.cell (i+n) (.inr (Nat.le_refl _))).trans hct))
 obtain⟨htc,hme⟩:=ae MST vs q c hlv hmv hq hcB hvv (ae HDQ)
 have eM:IntKind.u64.wrap ((c:Int)-(t:Int))=((c-t:Nat):Int):=by rw[IntKind.wrap_u64];omega
 rw[eM]
 have hMB:c-t < 18446744073709551616:=by omega
 have A2:Hid (zha D Y n vs q (c-t)∧Part w.heap.size i n wr w4∧Seg w4 w.heap.size i vs):=⟨hme,(ae HPW).trans (by first | exact hpt | exact ((Part.refl _ _ _ _).drewN 1).trans hpt),hsg⟩
 clear hme eM htc hvv hpt hsg HPW HSW HYW2 HDQ hmv k4 hct HSU MST htB
 generalize c-t=M at *
 clear hcB
 go_wp2
 go_loopw [10,11] (fun a b wq=>∃ (q M:Nat) (vs:List Nat),a=.int .u64 q∧b=.int .u64 M∧q < 18446744073709551616∧M < 18446744073709551616∧vs.length=n∧Hid (zha D Y n vs q M∧Part w.heap.size i n wr wq∧Seg wq w.heap.size i vs)) (fun a _ _=>(intOf a).toNat)
 case atStart=>exact⟨q,M,vs,rfl,rfl,hq,hMB,hlv,A2⟩
 case round =>(
 clear A2 hq hMB hlv
 obtain⟨q,M,vs,rfl,rfl,hq,hMB,hlv,HJ⟩:=hrel
 rename World=>wq
 by_cases hM0:M=0
 ·(
 subst hM0
 have hfin:=(ae HJ).1.fin
 have hdiv:=ae ST vs q hlv (ae HJ).1.mem hq hfin.1 hfin.2
 have hwh:=ae HWH wq vs (ae HJ).2.1 (ae HJ).2.2 hlv
 have ct:=((ae HJ).2.1.cell (i+n) (.inr (Nat.le_refl _))).trans (ae CT)
 have ft:=((ae HJ).2.1.frozen (i+n)).trans (ae FT)
 have hgg:w2.heap.size≠w.heap.size:=by have:=ae HG;omega
 have cq:=(ae HJ).2.1.but.ag (ae CQ) (by simpa using hgg)
 have fq:=((ae HJ).2.1.but.frozen (p:=⟨w2.heap.size,i,none⟩) (ai (ae CQ)) (by simpa using hgg)).trans (ae FQ)
 have hsq:=(ae HI).2.2.2.but (ae HJ).2.1.but (by simpa using hgg)
 have hBq:But [] w wq:=(ae HI).2.1.trans (ae HJ).2.1.but (fun x hx=>by simp at hx;subst hx;exact .inr (Nat.le_refl _))
 have lrs:i+n<(rs.take i++vs++rs.drop (i+n)).length:=by have:=hdiv.lr;rw[List.length_set] at this;omega
 have s1:=hwh.set (i+n) lrs 0
 rw[Nat.zero_add] at s1
 have b1:But [w.heap.size] wq (wq.setCell ⟨w.heap.size,i+n,none⟩ (.int .u64 ((0:Nat):Int))):=(But.refl _ _).setCell (by simp) _
 have s2:=hsq.but b1 (by simpa using hgg)
 have s3:=s2.set i (by omega) q
 rw[Nat.zero_add] at s3
 have b2:But [w2.heap.size] (wq.setCell ⟨w.heap.size,i+n,none⟩ (.int .u64 ((0:Nat):Int))) ((wq.setCell ⟨w.heap.size,i+n,none⟩ (.int .u64 ((0:Nat):Int))).setCell ⟨w2.heap.size,i,none⟩ (.int .u64 (q:Int))):=(But.refl _ _).setCell (by simp) _
 have s4:=s1.but b2 (by simpa using hgg.symm)
 have b3:=(hBq.setCell (p:=⟨w.heap.size,i+n,none⟩) (.inr (Nat.le_refl _)) (.int .u64 ((0:Nat):Int))).setCell (p:=⟨w2.heap.size,i,none⟩) (.inr (Nat.le_of_lt (ae HG))) (.int .u64 (q:Int))
 have ALL:=af (And.intro hdiv (And.intro b3 (And.intro s4 s3)))
 have hl1:Hid (((rs.take i++vs++rs.drop (i+n)).set (i+n) 0).length=nx+1∧(qs.set i q).length=nx+1-n):=⟨hdiv.lr,hdiv.lq⟩
 have cq2:(wq.setCell ⟨w.heap.size,i+n,none⟩ (.int .u64 0)).cell? ⟨w2.heap.size,i,none⟩=some (.int .u64 (qs[i]?.getD 0:Nat)):=(World.cell?_setCell_other _ _ _ _ (fun e=>hgg (Addr.mk.inj e).1.symm)).trans cq
 clear hdiv b1 b2 b3 s1 s2 s3 s4 hBq hsq hwh hfin lrs
 generalize qs[i]?.getD 0=q0 at *
 have iq:(i:Int)<((nx+1-n:Nat):Int):=by omega
 go_wp2
 refine⟨⟨i,(rs.take i++vs++rs.drop (i+n)).set (i+n) 0,qs.set i q,by omega,rfl,(ae hl1).1,(ae hl1).2,ae ALL⟩,?_⟩
 simp[intOf])
 ·(
 have hM1:1≤M:=by omega
 have hMz:((M:Int) != 0)=true:=by simp;omega
 have hq1:1≤q:=((ae HJ).1.pos (by omega)).1
 have STP:Hid (∀ (vs':List Nat) (k:Nat),k≤1→vs'.length=n→(∀ x ∈ vs',x < 18446744073709551616)→vl 18446744073709551616 vs' + k * 18446744073709551616^n=vl 18446744073709551616 vs+Y→zha D Y n vs' (q-1) (M-k)):=by
  intro vs' k h1 h2 h3 h4
  have hJ:=(ae HJ).1
  obtain⟨q',rfl⟩:∃ q',q=q' + 1:=⟨q-1,by omega⟩
  obtain⟨M',rfl⟩:∃ M',M=M' + 1:=⟨M-1,by omega⟩
  exact hJ.step vs' k h1 h2 h3 h4
 have hBq:But [] w wq:=(ae HI).2.1.trans (ae HJ).2.1.but (fun x hx=>by simp at hx;subst hx;exact .inr (Nat.le_refl _))
 have hAT:=zgz w.heap.size i (nx+1-i) vs ys (.slice (some ⟨b2,o2,none⟩) n c2) wq (ae HJ).2.2 (by omega) ((ae HY).ah hBq) (fun _=>ae HYO) (ae HJ).1.mem (ae MY) (by rw[ae HN];omega) (by omega)
 rw[hlv,ae VY] at hAT
 have HAT:=af hAT
 clear hAT hBq
 go_wp2_with fail
 refine (ae HAT).mono ?_
 rintro e w5 ⟨k,vs',rfl,hk1,hl5,hm5,hv5,hs5,hp5⟩
 have HN5:=af (And.intro (ae STP vs' k hk1 hl5 hm5 hv5) (And.intro ((ae HJ).2.1.trans hp5) hs5))
 have hkM:k≤M:=by omega
 clear STP HAT hv5 hs5 hp5 hm5 HJ
 go_wp2
 go_roundw
 case rel=>exact⟨q-1,M-k,vs',congrArg (Value.int IntKind.u64) (by omega),congrArg (Value.int IntKind.u64) (by omega),by omega,by omega,hl5,HN5⟩
 case measure=>simp[intOf];omega)))))
theorem zcb (m n:Nat):(m<n∧zn m n=-1)∨(m=n∧zn m n=0)∨(n<m∧zn m n=1):=by(
 rcases Nat.lt_trichotomy m n with h | h | h
 ·exact .inl ⟨h,by simp[zn,h]⟩
 ·exact .inr (.inl ⟨h,by simp[zn,h]⟩)
 ·exact .inr (.inr ⟨h,by simp only[zn];rw[if_neg (by omega),if_neg (by omega)]⟩))
theorem uj {m n:Nat} (h:m<n):zn m n=-1:=by simp[zn,h]
theorem zca {m n:Nat} (h:n≤m):0≤zn m n:=by
 rcases zcb m n with ⟨h1,-⟩|⟨-,h1⟩|⟨-,h1⟩ <;> omega
def qen (X Y:Nat):Prop:=∀ (vx vy:Value) (w:World),Sl .u64 w vx (wd 18446744073709551616 X)→Sl .u64 w vy (wd 18446744073709551616 Y) →
 Calls prog 255 #[vx,vy] w fun e w'=>∃ v1 v2,e=.returned (.tuple #[v1,v2])∧Sl .u64 w' v1 (wd 18446744073709551616 (X/Y))∧Sl .u64 w' v2 (wd 18446744073709551616 (X%Y))∧But [] w w'∧(Y≤X→Own w.heap.size w' v2)
theorem zos (X Y:Nat) (h2:2≤(wd 18446744073709551616 Y).length) (hle:Y≤X) (hl:(wd 18446744073709551616 X).length<268435456) (hs:(wd 18446744073709551616 X).length<(wd 18446744073709551616 Y).length+80∨(wd 18446744073709551616 Y).length<80):qen X Y:=by(
 intro vx vy w hx hy
 have hlen:=aq hle
 have hcmp:=wz vx vy X Y w hx hy (by omega) (by omega)
 have hc0:=zca hle
 generalize zn X Y=r at *
 have HC:=af hcmp
 have LD:=af (fun (W:World) (h1:Sl .u64 W vx (wd 18446744073709551616 X)) (h3:Sl .u64 W vy (wd 18446744073709551616 Y))=>zgp vx vy X Y W h1 h3 h2 hlen hl)
 have HX:=af hx
 have HY:=af hy
 obtain⟨a1,c1,rfl,-,-⟩:=hx
 obtain⟨a2,c2,rfl,-,-⟩:=hy
 clear hcmp
 generalize (wd 18446744073709551616 X).length=nx at *
 generalize (wd 18446744073709551616 Y).length=ny at *
 have hr:decide (r<0)=false:=by simp;omega
 by_cases hm:nx<ny+80
 ·(
 go_enter func255,ntmps255
 go_wp2_with fail
 refine (ae HC).mono ?_
 rintro e w1 ⟨rfl,q,rfl⟩
 go_wp2_with fail
 refine (ae LD _ (by exact ae HX) (by exact ae HY)).mono ?_
 rintro e w2 ⟨v1,v2,rfl,h1,h3,h4,h5,h6⟩
 have ALL:=af (And.intro h1 (And.intro h3 (And.intro (((But.refl [] _).drewN q).trans' h4) h5)))
 clear h1 h3 h4 h5 h6 LD HC
 go_wp2
 go_ret2
 exact⟨v1,v2,rfl,(ae ALL).1,(ae ALL).2.1,(ae ALL).2.2.1,fun _=>(ae ALL).2.2.2⟩)
 ·(
 have hs2:ny<80:=by omega
 clear hs
 go_enter func255,ntmps255
 go_wp2_with fail
 refine (ae HC).mono ?_
 rintro e w1 ⟨rfl,q,rfl⟩
 go_wp2_with fail
 refine (ae LD _ (by exact ae HX) (by exact ae HY)).mono ?_
 rintro e w2 ⟨v1,v2,rfl,h1,h3,h4,h5,h6⟩
 have ALL:=af (And.intro h1 (And.intro h3 (And.intro (((But.refl [] _).drewN q).trans' h4) h5)))
 clear h1 h3 h4 h5 h6 LD HC
 go_wp2
 go_ret2
 exact⟨v1,v2,rfl,(ae ALL).1,(ae ALL).2.1,(ae ALL).2.2.1,fun _=>(ae ALL).2.2.2⟩))
def zt (Y:Nat):Nat:=(wd 18446744073709551616 Y)[(wd 18446744073709551616 Y).length-1]?.getD 0
theorem zeq (Y:Nat) (h:0<Y):0<zt Y∧zt Y < 18446744073709551616∧Y<(zt Y+1) * 18446744073709551616^((wd 18446744073709551616 Y).length-1)∧zt Y * 18446744073709551616^((wd 18446744073709551616 Y).length-1)≤Y:=by(
 have hl:0<(wd 18446744073709551616 Y).length:=by rw[Nat.pos_iff_ne_zero];intro e;rw[zi (by omega)] at e;omega
 obtain⟨m,hm⟩:∃ m,(wd 18446744073709551616 Y).length=m+1:=⟨(wd 18446744073709551616 Y).length-1,by omega⟩
 have e1:=dz (wd 18446744073709551616 Y) m (by omega)
 rw[drop_one _ m hm,zyd,qh (by omega)] at e1
 have e2:=zdz (wd 18446744073709551616 Y) m (by omega) (zo (by omega) Y)
 have e3:=bz (zo (B:=18446744073709551616) (by omega) Y) (by omega:0 < 18446744073709551616) m
 unfold zt
 rw[hm,Nat.add_sub_cancel]
 generalize (wd 18446744073709551616 Y)[m]?.getD 0=t at *
 have ht:0<t:=by
  rcases Nat.eq_zero_or_pos t with h0 | h0
  ·subst h0
   have:=aj (B:=18446744073709551616) (by omega) Y m (by omega)
   omega
  ·exact h0
 rw[Nat.mul_comm] at e1
 refine⟨ht,e3,?_,by omega⟩
 rw[Nat.add_mul,Nat.one_mul];omega)
theorem zqi (Y:Nat) (h:0<Y):(wd 18446744073709551616 (Y*2^lz (zt Y))).length=(wd 18446744073709551616 Y).length:=by(
 obtain⟨h1,h2,h3,h4⟩:=zeq Y h
 obtain⟨l1,l2,l3,-⟩:=zai (zt Y) h1 h2
 have hl:0<(wd 18446744073709551616 Y).length:=by rw[Nat.pos_iff_ne_zero];intro e;rw[zi (by omega)] at e;omega
 have hp:18446744073709551616=2^(64-lz (zt Y))*2^lz (zt Y):=by rw[← Nat.pow_add,show (64-lz (zt Y))+lz (zt Y)=64 from by omega]
 have h5:(zt Y+1)*2^lz (zt Y)≤18446744073709551616:=by
  rw[hp] at l2 ⊢
  exact Nat.mul_le_mul_right _ (Nat.lt_of_mul_lt_mul_right l2)
 refine Nat.le_antisymm (aj (by omega) _ _ ?_) (aq (Nat.le_mul_of_pos_right _ (Nat.pow_pos (by omega))))
 have h6:Y*2^lz (zt Y)<(zt Y+1) * 18446744073709551616^((wd 18446744073709551616 Y).length-1)*2^lz (zt Y):=Nat.mul_lt_mul_of_pos_right h3 (Nat.pow_pos (by omega))
 have h7:(zt Y+1) * 18446744073709551616^((wd 18446744073709551616 Y).length-1)*2^lz (zt Y)≤18446744073709551616 * 18446744073709551616^((wd 18446744073709551616 Y).length-1):=by
  rw[Nat.mul_right_comm];exact Nat.mul_le_mul_right _ h5
 have h8:18446744073709551616 * 18446744073709551616^((wd 18446744073709551616 Y).length-1)=18446744073709551616^(wd 18446744073709551616 Y).length:=by rw[Nat.mul_comm,← Nat.pow_succ];congr 1;omega
 omega)
theorem zno (X s:Nat) (hs:s≤63):(wd 18446744073709551616 (X*2^s)).length≤(wd 18446744073709551616 X).length+1:=by(
 refine aj (by omega) _ _ ?_
 rw[Nat.pow_succ]
 have h1:=zct X
 have h2:2^s≤18446744073709551616:=by
  have:2^s≤2^64:=Nat.pow_le_pow_right (by omega) (by omega)
  omega
 exact Nat.lt_of_lt_of_le (Nat.mul_lt_mul_of_pos_right h1 (Nat.pow_pos (by omega))) (Nat.mul_le_mul_left _ h2))
theorem jc {P:Program} {w:World} {ops:Array Oper} {rest:List Oper} {o:Oper} {a:Act} {Q:Exit→Act→World→Prop} (hgd:o.guard=none) (s x:Operand) (t u:TypeId)
  (ho:o.op=.call { callee:=.builtin .append,args:=#[s,x],argTypes:=#[t,u] }) (vs vx v':Value) (w':World) (hs:a.eval s=vs) (hx:a.eval x=vx)
  (hr:(Builtin.append_ #[t,u] o.type #[vs,vx]).run P w=.ok v' w') (h:wpList P ops Q rest (a.put o.dst v') w'):wpList P ops Q (o::rest) a w :=
 wpList_plain hgd fun _ hK=>by
  unfold Oper.wp execOp
  simp only[ho,resolve,invoke,builtin,Sem.run_bind,Sem.run_pure,Result.andThen_ok,List.map_toArray,List.map_cons,List.map_nil,hs,hx,hr]
  exact hK _ _ h
end Go.Proofs.YtjlfllhedceigaaGreatDoor
