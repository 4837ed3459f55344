/- A whole number is divided by a word, as  -/
import Derived.Deep.RegionHeld
import Derived.Test.YtagmkkiagjmimaaGreatDoorSN10
import Derived.Test.YtagmkkiagjmimaaGreatDoorSN6
namespace Go.Proofs.YtagmkkiagjmimaaGreatDoor
set_option linter.unusedVariables false
open Go.Proofs.Tryz
open Go.RowKit
set_option maxHeartbeats 4000000
set_option maxRecDepth 100000
structure zel (xs rs:List Nat) (d k r:Nat):Prop where
 len:rs.length=xs.length
 mem:∀ x ∈ rs,x < 18446744073709551616
 lt:r<d
 val:vl 18446744073709551616 (xs.drop k)=d*vl 18446744073709551616 (rs.drop k)+r
theorem zel.start (xs:List Nat) (d:Nat) (hd:0<d):zel xs (List.replicate xs.length 0) d xs.length 0 :=
 ⟨by simp,fun x hx=>by rw[List.mem_replicate] at hx;omega,hd,by simp[vl]⟩
theorem zel.step {xs rs:List Nat} {d i r:Nat} (h:zel xs rs d (i+1) r) (hi:i<xs.length) (hx:xs[i]?.getD 0 < 18446744073709551616) (q r':Nat) (hq:(r * 18446744073709551616+xs[i]?.getD 0)/d=q) (hr:(r * 18446744073709551616+xs[i]?.getD 0)%d=r'):q < 18446744073709551616∧zel xs (rs.set i q) d i r':=by(
 have hl:=h.lt
 have hd:0<d:=by omega
 have hqB:q < 18446744073709551616:=by
  rw[← hq,Nat.div_lt_iff_lt_mul hd,Nat.mul_comm]
  have:(r+1) * 18446744073709551616≤d * 18446744073709551616:=Nat.mul_le_mul_right _ hl
  omega
 refine⟨hqB,by rw[List.length_set];exact h.len,mem_set h.mem _ _ hqB,by rw[← hr];exact Nat.mod_lt _ hd,?_⟩
 rw[set_drop rs i q (by rw[h.len];exact hi),vl,j6 18446744073709551616 xs i hi,h.val]
 have:=Nat.div_add_mod (r * 18446744073709551616+xs[i]?.getD 0) d
 rw[hq,hr] at this
 generalize vl 18446744073709551616 (rs.drop (i+1))=V at *
 generalize xs[i]?.getD 0=x at *
 grind)
theorem zel.fin {xs rs:List Nat} {d r:Nat} (h:zel xs rs d 0 r):vl 18446744073709551616 rs=vl 18446744073709551616 xs/d∧r=vl 18446744073709551616 xs%d:=by(
 have h1:=h.val
 have hl:=h.lt
 simp only[List.drop_zero] at h1
 have hd:0<d:=by omega
 rw[h1]
 exact⟨by rw[Nat.mul_add_div hd,Nat.div_eq_of_lt hl,Nat.add_zero],by rw[Nat.mul_add_mod,Nat.mod_eq_of_lt hl]⟩)
theorem zfp (v:Value) (X d:Nat) (w:World) (hv:Sl .u64 w v (wd 18446744073709551616 X)) (hl:(wd 18446744073709551616 X).length<1073741824) (hd:0<d) (hdB:d < 18446744073709551616) :
   Calls prog 208 #[v,.int .u64 (d:Int)] w fun e w'=>∃ v',e=.returned (.tuple #[v',.int .u64 ((X%d:Nat):Int)])∧Sl .u64 w' v' (wd 18446744073709551616 (X/d))∧But [] w w':=by(
 have mm:=zo (B:=18446744073709551616) (by omega) X
 have em:=qg (B:=18446744073709551616) (by omega) X
 obtain⟨a,c,rfl,hc,hcell,-⟩:=hv
 generalize wd 18446744073709551616 X=xs at *
 subst em
 obtain⟨R,hR⟩:∃ R,R=vl 18446744073709551616 xs%d:=⟨_,rfl⟩
 rw[← hR]
 have HR:=af hR
 have hmk:=fun wx=>xq wx xs.length (by omega)
 have HC:=af hcell
 have MM:=af mm
 clear hcell mm hR
 go_enter func208,ntmps208
 go_wp2
 go_loopw [7,8] (fun r i wr=>∃ (k rN:Nat) (rs:List Nat),k≤xs.length∧i=.int .i64 ((k:Int)-1)∧r=.int .u64 rN∧rN<d∧rs.length=xs.length∧Hid (zel xs rs d k rN∧But [] w wr∧Seg wr w.heap.size 0 rs)) (fun _ i _=>(intOf i+1).toNat)
 case atStart=>exact⟨xs.length,0,List.replicate xs.length 0,Nat.le_refl _,rfl,rfl,hd,by simp,zel.start xs d hd,(But.refl _ _).alloc _,Seg.made _ _ _⟩
 case round =>(
 obtain⟨k,rN,rs,hk,rfl,rfl,hrN,hrl,HI⟩:=hrel
 rename World=>wr
 by_cases hk0:k=0
 ·(
 subst hk0
 have hsl:=(ae HI).2.2.sl xs.length (by omega)
 rw[hrl] at hsl
 have HSL:=af hsl
 have HF:=af (ae HI).1.fin
 have hln:rs.length<2147483648:=by omega
 clear hsl HC
 go_wp2_with fail
 refine (zz _ rs _ (ae HSL) (ae HI).1.mem hln).mono ?_
 rintro e w1 ⟨v1,rfl,hv1,hw,-⟩
 obtain rfl:=hw.symm
 clear hw
 rw[(ae HF).1] at hv1
 have HV1:=af hv1
 have er:Hid (rN=R):=by show _=_;rw[ae HR];exact (ae HF).2
 clear hv1
 go_wp2
 go_ret2
 exact⟨v1,by rw[← ae er];rfl,ae HV1,(ae HI).2.1⟩)
 ·(
 obtain⟨i,rfl⟩:∃ i,k=i+1:=⟨k-1,by omega⟩
 obtain⟨b,off,rfl,hci⟩:=ae HC i (by omega)
 have cx:=(ae HI).2.1.ag hci (by simp)
 have hxB:xs[i]?.getD 0 < 18446744073709551616:=bt (ae MM) (by omega) i
 obtain⟨cr,fr⟩:=(ae HI).2.2 i (by omega)
 rw[Nat.zero_add] at cr fr
 obtain⟨q,hq⟩:∃ q,(rN * 18446744073709551616+xs[i]?.getD 0)/d=q:=⟨_,rfl⟩
 obtain⟨r',hr'⟩:∃ r',(rN * 18446744073709551616+xs[i]?.getD 0)%d=r':=⟨_,rfl⟩
 obtain⟨hqB,hst⟩:=(ae HI).1.step (by omega) hxB q r' hq hr'
 have hr'd:r' < d:=hst.lt
 have ST:=af hst
 have DV:=af (zhv rN (xs[i]?.getD 0) d hdB hxB hrN wr q r' hq hr')
 have hset:=(ae HI).2.2.set i (by omega) q
 rw[Nat.zero_add] at hset
 have HSET:=af hset
 clear hset hst hci hq hr'
 generalize xs[i]?.getD 0=x at *
 generalize rs[i]?.getD 0=r0 at cr
 rw[show (((i+1:Nat):Int)-1)=(i:Int) from by omega]
 go_wp2_with fail
 refine (ae DV).mono ?_
 rintro e w1 ⟨rfl,n,rfl⟩
 go_wp2
 refine⟨⟨i,r',rs.set i q,by omega,rfl,rfl,hr'd,by rw[List.length_set];exact hrl,ae ST,((ae HI).2.1.drewN n).setCell (.inr (Nat.le_refl _)) _,?_⟩,?_⟩
 ·exact ae HSET
 ·simp[intOf])))
theorem qii (a b:Nat):vl 18446744073709551616 [a,b]=a + 18446744073709551616*b:=by simp[vl]
theorem zsy (a:Nat):vl 18446744073709551616 [a]=a:=by simp[vl]
theorem qdj (ws:List Nat) (n:Nat) (h:ws.length=n+2):ws.drop n=[ws[n]?.getD 0,ws[n+1]?.getD 0]:=by
 rw[List.drop_eq_getElem_cons (by omega),List.drop_eq_getElem_cons (by omega),List.drop_eq_nil_of_le (by omega),List.getElem?_eq_getElem (by omega),List.getElem?_eq_getElem (by omega)]
 rfl
theorem drop_one (ws:List Nat) (n:Nat) (h:ws.length=n+1):ws.drop n=[ws[n]?.getD 0]:=by
 rw[List.drop_eq_getElem_cons (by omega),List.drop_eq_nil_of_le (by omega),List.getElem?_eq_getElem (by omega)]
 rfl
theorem zrx (vx vy:Value) (ws ys:List Nat) (m:Nat) (w:World) (hx:Sl .u64 w vx ws) (hy:Sl .u64 w vy ys) (hlw:ws.length=m+3) (hly:ys.length=m+2) (mw:∀ x ∈ ws,x < 18446744073709551616) (my:∀ x ∈ ys,x < 18446744073709551616) (hlt:vl 18446744073709551616 ws < 18446744073709551616*vl 18446744073709551616 ys) (hm:m<1073741824) :
   Calls prog 264 #[vx,vy] w fun e w'=>∃ q,e=.returned (.int .u64 (q:Nat))∧q < 18446744073709551616∧vl 18446744073709551616 ws<(q+1)*vl 18446744073709551616 ys∧∃ n,w'=w.drewN n:=by(
 rcases hx.open with ⟨e,-⟩|⟨-,b,off,c,rfl,hc,-,hcx⟩
 ·rw[e] at hlw;simp at hlw
 rcases hy.open with ⟨e,-⟩|⟨-,b',off',c',rfl,hc',-,hcy⟩
 ·rw[e] at hly;simp at hly
 have x2:=hcx (m+2) (by omega)
 have x1:=hcx (m+1) (by omega)
 have x0:=hcx m (by omega)
 have y1:=hcy (m+1) (by omega)
 have y0:=hcy m (by omega)
 have eR:=ul 18446744073709551616 ws m (by omega)
 rw[qdj ws (m+1) (by omega),qii] at eR
 have eY:=ul 18446744073709551616 ys m (by omega)
 rw[drop_one ys (m+1) (by omega),zsy] at eY
 have hRl:=fe (by omega:0 < 18446744073709551616) (ws.take m) (fun x hx=>mw x (List.mem_of_mem_take hx))
 rw[List.length_take,Nat.min_eq_left (by omega)] at hRl
 have b2:=bt mw (by omega:0 < 18446744073709551616) (m+2)
 have b1:=bt mw (by omega:0 < 18446744073709551616) (m+1)
 have b0:=bt mw (by omega:0 < 18446744073709551616) m
 have d1:=bt my (by omega:0 < 18446744073709551616) (m+1)
 have d0:=bt my (by omega:0 < 18446744073709551616) m
 rw[show m+1+1=m+2 from rfl] at eR
 rw[hlw] at hc ⊢
 rw[hly] at hc' ⊢
 generalize ws[m+2]?.getD 0=X2 at *
 generalize ws[m+1]?.getD 0=X1 at *
 generalize ws[m]?.getD 0=X0 at *
 generalize ys[m+1]?.getD 0=F at *
 generalize ys[m]?.getD 0=S at *
 generalize vl 18446744073709551616 ws=R at *
 generalize vl 18446744073709551616 ys=Y at *
 have I0:Hid (∀ q r,X2 * 18446744073709551616+X1=q*F+r→r<F→R<(q+1)*Y):=fun q r e hr=>qgd X2 X1 X0 F S _ _ _ R Y q r eR eY hRl b0 e hr
 have I1:Hid (∀ q r,X2 * 18446744073709551616+X1=q*F+r→r * 18446744073709551616+X0<q*S→R<q*Y):=fun q r e hc=>qiz X2 X1 X0 F S _ _ _ R Y q r eR eY hRl e hc
 have HLT:=af hlt
 clear eR eY hRl hlt hcx hcy hx hy mw my hlw hly
 by_cases hge:F≤X2
 ·(
 go_enter func264,ntmps264
 go_wp2
 go_quiet (fail)
 go_wp2
 go_ret
 refine⟨18446744073709551615,rfl,by omega,?_,nq,rfl⟩
 exact ae HLT)
 ·(
 obtain⟨q,hq⟩:∃ q,(X2 * 18446744073709551616+X1)/F=q:=⟨_,rfl⟩
 obtain⟨r,hr⟩:∃ r,(X2 * 18446744073709551616+X1)%F=r:=⟨_,rfl⟩
 have hdm:=Nat.div_add_mod (X2 * 18446744073709551616+X1) F
 rw[hq,hr,Nat.mul_comm] at hdm
 have hrF:r<F:=by rw[← hr];exact Nat.mod_lt _ (by omega)
 have hqB:q < 18446744073709551616:=by
  rw[← hq,Nat.div_lt_iff_lt_mul (by omega),Nat.mul_comm]
  have:(X2+1) * 18446744073709551616≤F * 18446744073709551616:=Nat.mul_le_mul_right _ (by omega)
  omega
 have DV:=af (fun W=>zhv X2 X1 F d1 b1 (by omega) W q r hq hr)
 obtain⟨lo,hi,hlo,hhi,e0⟩:=bp q S 0 hqB d0 (by omega)
 rw[Nat.add_zero] at e0
 have MU:=af (fun W=>kw q S hi lo hqB d0 hlo e0 W)
 have A0:Hid (X2 * 18446744073709551616+X1=q*F+r∧q*S=lo + 18446744073709551616*hi∧R<(q+1)*Y):=⟨hdm.symm,e0,ae I0 q r hdm.symm hrF⟩
 clear hdm e0 hq hr
 have hrB:r < 18446744073709551616:=by omega
 go_enter func264,ntmps264
 go_wp2
 go_quiet (fail)
 go_wp2
 obtain⟨W,hW⟩:∃ W,W=w.drewN nq:=⟨_,rfl⟩
 have k2:W.cell? ⟨b,off+(m+2),none⟩=some (.int .u64 (X2:Int)):=by rw[hW];exact x2
 have k1:W.cell? ⟨b,off+(m+1),none⟩=some (.int .u64 (X1:Int)):=by rw[hW];exact x1
 have k0:W.cell? ⟨b,off+m,none⟩=some (.int .u64 (X0:Int)):=by rw[hW];exact x0
 rw[← hW]
 have HW:=af hW
 clear hW x0 x1 x2 y0 y1
 go_quiet ((go_at_call 241;refine Calls.quiet_of (ae DV _)))
 go_wp2_with fail
 refine (ae MU _).mono ?_
 rintro e w1 ⟨rfl,hw⟩
 obtain rfl:=hw.symm
 clear hw
 go_wp2_with fail
 go_loop [8,9,10,11] (fun p1 p2 p3 p4=>∃ q r hi lo:Nat,p1=.int .u64 q∧p2=.int .u64 r∧p3=.int .u64 hi∧p4=.int .u64 lo∧q < 18446744073709551616∧r < 18446744073709551616∧hi < 18446744073709551616∧lo < 18446744073709551616∧Hid (X2 * 18446744073709551616+X1=q*F+r∧q*S=lo + 18446744073709551616*hi∧R<(q+1)*Y)) (fun p1 _ _ _=>(intOf p1).toNat)
 case atStart=>exact⟨q,r,hi,lo,rfl,rfl,rfl,rfl,hqB,hrB,hhi,hlo,A0⟩
 case round =>(
 clear A0 hrF DV MU hqB hrB hhi hlo
 obtain⟨q,r,hi,lo,rfl,rfl,rfl,rfl,hqB,hrB,hhi,hlo,HI⟩:=hrel
 by_cases hA:r<hi
 ·(
 have hq1:1≤q:=by
  rcases Nat.eq_zero_or_pos q with h | h
  ·subst h;have:=(ae HI).2.1;rw[Nat.zero_mul] at this;omega
  ·exact h
 have hRq:=ae I1 q r (ae HI).1 (by rw[(ae HI).2.1];omega)
 obtain⟨q',rfl⟩:∃ q',q=q' + 1:=⟨q-1,by omega⟩
 obtain⟨s,k,hs,hk,he⟩:=dz r F 0 hrB d1 (by omega)
 rw[Nat.add_zero] at he
 have AD:=fun w=>zli r F hrB d1 s k he hs w
 obtain⟨l2,bw,hl2,hbw,he2⟩:=xg lo S 0 hlo d0 (by omega)
 rw[Nat.add_zero] at he2
 have SB:=fun w=>zte lo S l2 bw he2 hl2 hlo d0 w
 have e4:=(ae HI).2.1
 rw[Nat.add_mul,Nat.one_mul] at e4
 have hbh:bw≤hi:=by omega
 obtain⟨h',hh'⟩:∃ h',h' + bw=hi:=⟨hi-bw,by omega⟩
 have e5:q' * S=l2 + 18446744073709551616*h':=by rw[← hh',Nat.mul_add] at e4;omega
 have e6:=(ae HI).1
 rw[Nat.add_mul,Nat.one_mul] at e6
 have HRQ:=af hRq
 have hk01:k=0∨k=1:=by omega
 rcases hk01 with rfl|rfl
 ·(
 have HN:Hid (X2 * 18446744073709551616+X1=q' * F+s∧q' * S=l2 + 18446744073709551616*h'∧R<(q' + 1)*Y):=⟨by omega,e5,hRq⟩
 have HH:=af hh'
 clear e4 e5 e6 he he2 hRq HI hh'
 go_wp2
 go_round
 case rel=>exact⟨q',s,h',l2,by go_num,rfl,congrArg (Value.int IntKind.u64) (by have:=ae HH;omega),rfl,by omega,hs,by have:=ae HH;omega,hl2,ae HN⟩
 case measure=>simp[intOf])
 ·(
 have HH:=af hh'
 clear e4 e5 e6 he he2 hRq HI hh'
 go_wp2
 go_ret
 exact⟨q',by go_num,by omega,ae HRQ,by rw[ae HW];exact dr1 _ _ _⟩))
 ·(
 have hA':hi≤r:=by omega
 by_cases hB:hi=r
 ·(
 have hB1:r≤hi:=by omega
 have hBt:((hi:Int)==(r:Int))=true:=beq_iff_eq.2 (by omega)
 clear hB
 by_cases hC:X0<lo
 ·(
 have hq1:1≤q:=by
  rcases Nat.eq_zero_or_pos q with h | h
  ·subst h;have:=(ae HI).2.1;rw[Nat.zero_mul] at this;omega
  ·exact h
 have hRq:=ae I1 q r (ae HI).1 (by rw[(ae HI).2.1];omega)
 obtain⟨q',rfl⟩:∃ q',q=q' + 1:=⟨q-1,by omega⟩
 obtain⟨s,k,hs,hk,he⟩:=dz r F 0 hrB d1 (by omega)
 rw[Nat.add_zero] at he
 have AD:=fun w=>zli r F hrB d1 s k he hs w
 obtain⟨l2,bw,hl2,hbw,he2⟩:=xg lo S 0 hlo d0 (by omega)
 rw[Nat.add_zero] at he2
 have SB:=fun w=>zte lo S l2 bw he2 hl2 hlo d0 w
 have e4:=(ae HI).2.1
 rw[Nat.add_mul,Nat.one_mul] at e4
 have hbh:bw≤hi:=by omega
 obtain⟨h',hh'⟩:∃ h',h' + bw=hi:=⟨hi-bw,by omega⟩
 have e5:q' * S=l2 + 18446744073709551616*h':=by rw[← hh',Nat.mul_add] at e4;omega
 have e6:=(ae HI).1
 rw[Nat.add_mul,Nat.one_mul] at e6
 have HRQ:=af hRq
 have hk01:k=0∨k=1:=by omega
 rcases hk01 with rfl|rfl
 ·(
 have HN:Hid (X2 * 18446744073709551616+X1=q' * F+s∧q' * S=l2 + 18446744073709551616*h'∧R<(q' + 1)*Y):=⟨by omega,e5,hRq⟩
 have HH:=af hh'
 clear e4 e5 e6 he he2 hRq HI hh'
 go_wp2
 go_round
 case rel=>exact⟨q',s,h',l2,by go_num,rfl,congrArg (Value.int IntKind.u64) (by have:=ae HH;omega),rfl,by omega,hs,by have:=ae HH;omega,hl2,ae HN⟩
 case measure=>simp[intOf])
 ·(
 have HH:=af hh'
 clear e4 e5 e6 he he2 hRq HI hh'
 go_wp2
 go_ret
 exact⟨q',by go_num,by omega,ae HRQ,by rw[ae HW];exact dr1 _ _ _⟩))
 ·have hC':lo≤X0:=by omega
  go_wp2
  go_ret
  exact⟨q,rfl,hqB,(ae HI).2.2,by rw[ae HW];exact dr1 _ _ _⟩)
 ·have hB':((hi:Int)==(r:Int))=false:=beq_eq_false_iff_ne.2 (by omega)
  go_wp2
  go_ret
  exact⟨q,rfl,hqB,(ae HI).2.2,by rw[ae HW];exact dr1 _ _ _⟩))))
structure zaf (X Y nx n:Nat) (rs qs:List Nat) (k:Nat):Prop where
 lr:rs.length=nx+1
 lq:qs.length=nx+1-n
 mr:∀ x ∈ rs,x < 18446744073709551616
 mq:∀ x ∈ qs,x < 18446744073709551616
 lt:vl 18446744073709551616 rs<Y * 18446744073709551616^k
 val:X=vl 18446744073709551616 rs+Y*vl 18446744073709551616 qs
 zero:∀ j,j<k→qs[j]?.getD 0=0
theorem wu (rs:List Nat) (i:Nat) (h:i≤rs.length):vl 18446744073709551616 rs=vl 18446744073709551616 (rs.take i) + 18446744073709551616^i*vl 18446744073709551616 (rs.drop i):=by(
 have:=congrArg (vl 18446744073709551616) (List.take_append_drop i rs)
 rw[zt,List.length_take,Nat.min_eq_left h] at this
 exact this.symm)
theorem ru (rs:List Nat) (i:Nat) (h:i≤rs.length) (hm:∀ x ∈ rs,x < 18446744073709551616):vl 18446744073709551616 (rs.take i) < 18446744073709551616^i:=by(
 have:=fe (by omega:0 < 18446744073709551616) (rs.take i) (fun x hx=>hm x (List.mem_of_mem_take hx))
 rw[List.length_take,Nat.min_eq_left h] at this
 exact this)
theorem zlp (rs:List Nat) (i:Nat) (h:i≤rs.length) (hs:vl 18446744073709551616 rs < 18446744073709551616^i):vl 18446744073709551616 (rs.drop i)=0:=by(
 rw[wu rs i h] at hs
 rcases Nat.eq_zero_or_pos (vl 18446744073709551616 (rs.drop i)) with h0 | h0
 ·exact h0
 ·have:=Nat.le_mul_of_pos_right (18446744073709551616^i) h0
  omega)
theorem zaf.win {X Y nx n:Nat} {rs qs:List Nat} {i:Nat} (h:zaf X Y nx n rs qs (i+1)) (hY:Y < 18446744073709551616^n) (hi:i+n<rs.length) :
   vl 18446744073709551616 ((rs.drop i).take (n+1))=vl 18446744073709551616 (rs.drop i)∧vl 18446744073709551616 (rs.drop i) < 18446744073709551616*Y∧vl 18446744073709551616 (rs.drop i)=vl 18446744073709551616 ((rs.drop i).take n)+rs[i+n]?.getD 0 * 18446744073709551616^n:=by(
 have hD:=wu rs i (by omega)
 have hlt:=h.lt
 have h1:vl 18446744073709551616 (rs.drop i) < 18446744073709551616*Y:=by
  have:18446744073709551616^i*vl 18446744073709551616 (rs.drop i) < 18446744073709551616^i*(18446744073709551616*Y):=by
   have e:Y * 18446744073709551616^(i+1)=18446744073709551616^i*(18446744073709551616*Y):=by rw[Nat.pow_succ,Nat.mul_comm Y,Nat.mul_assoc]
   rw[← e];omega
  exact Nat.lt_of_mul_lt_mul_left this
 have h2:vl 18446744073709551616 (rs.drop i) < 18446744073709551616^(n+1):=by
  rw[Nat.pow_succ,Nat.mul_comm]
  exact Nat.lt_of_lt_of_le h1 (Nat.mul_le_mul_left _ (Nat.le_of_lt hY))
 have hl:(rs.drop i).length=rs.length-i:=List.length_drop
 have h3:vl 18446744073709551616 ((rs.drop i).drop (n+1))=0:=zlp _ _ (by omega) h2
 have h4:=wu (rs.drop i) (n+1) (by omega)
 rw[h3,Nat.mul_zero,Nat.add_zero] at h4
 refine⟨h4.symm,h1,?_⟩
 have h5:=qh 18446744073709551616 (rs.drop i) n (by omega)
 rw[List.getElem?_drop] at h5
 rw[h4,h5])
theorem zaf.step {X Y nx n:Nat} {rs qs:List Nat} {i:Nat} (h:zaf X Y nx n rs qs (i+1)) (hY:Y < 18446744073709551616^n) (hi:i+n<rs.length) (hiq:i<qs.length) (vs:List Nat) (q:Nat) (hl:vs.length=n) (hm:∀ x ∈ vs,x < 18446744073709551616) (hq:q < 18446744073709551616) (hv:vl 18446744073709551616 vs+q*Y=vl 18446744073709551616 (rs.drop i)) (hvY:vl 18446744073709551616 vs<Y) :
   zaf X Y nx n ((rs.take i++vs++rs.drop (i+n)).set (i+n) 0) (qs.set i q) i:=by(
 obtain⟨h1,h2,h3⟩:=h.win hY hi
 have lt:(rs.take i).length=i:=by rw[List.length_take];omega
 have lw:(rs.take i++vs).length=i+n:=by rw[List.length_append,lt,hl]
 have ll:(rs.take i++vs++rs.drop (i+n)).length=rs.length:=by rw[List.length_append,lw,List.length_drop];omega
 have hd:vl 18446744073709551616 (rs.drop (i+n))=rs[i+n]?.getD 0:=by
  have e1:=wu (rs.drop i) n (by rw[List.length_drop];omega)
  rw[List.drop_drop] at e1
  rw[e1] at h3
  have:18446744073709551616^n*vl 18446744073709551616 (rs.drop (i+n))=rs[i+n]?.getD 0 * 18446744073709551616^n:=by omega
  rw[Nat.mul_comm] at this
  exact Nat.eq_of_mul_eq_mul_right (Nat.pow_pos (by omega)) this
 have hg:(rs.take i++vs++rs.drop (i+n))[i+n]?.getD 0=rs[i+n]?.getD 0:=by
  rw[List.getElem?_append_right (by omega),lw,List.getElem?_drop,show i+n+(i+n-(i+n))=i+n from by omega]
 have hset:=wo 18446744073709551616 (rs.take i++vs++rs.drop (i+n)) (i+n) 0 (by omega)
 rw[hg,Nat.zero_mul,Nat.add_zero,zt,lw,hd,zt,lt] at hset
 have hval:vl 18446744073709551616 ((rs.take i++vs++rs.drop (i+n)).set (i+n) 0)=vl 18446744073709551616 (rs.take i) + 18446744073709551616^i*vl 18446744073709551616 vs:=by
  rw[Nat.mul_comm (18446744073709551616^(i+n))] at hset
  omega
 have hq0:=h.zero i (by omega)
 have hqs:=wo 18446744073709551616 qs i q hiq
 rw[hq0,Nat.zero_mul,Nat.add_zero] at hqs
 have hD:=wu rs i (by omega)
 have htl:=ru rs i (by omega) h.mr
 refine⟨by rw[List.length_set,ll];exact h.lr,by rw[List.length_set];exact h.lq,mem_set ?_ _ _ (by omega),mem_set h.mq _ _ hq,?_,?_,?_⟩
 ·(
 intro x hx
 simp only[List.mem_append] at hx
 rcases hx with (hx | hx) | hx
 ·exact h.mr x (List.mem_of_mem_take hx)
 ·exact hm x hx
 ·exact h.mr x (List.mem_of_mem_drop hx))
 ·(
 rw[hval]
 have:18446744073709551616^i*(vl 18446744073709551616 vs+1)≤18446744073709551616^i*Y:=Nat.mul_le_mul_left _ hvY
 rw[Nat.mul_add,Nat.mul_one] at this
 rw[Nat.mul_comm Y]
 omega)
 ·(
 rw[hval,hqs,h.val,hD,← hv]
 generalize vl 18446744073709551616 (rs.take i)=a
 generalize vl 18446744073709551616 vs=b
 generalize vl 18446744073709551616 qs=c
 generalize 18446744073709551616^i=P
 grind)
 ·intro j hj
  rw[List.getElem?_set_ne (by omega)];exact h.zero j (by omega))
theorem zaf.fin {X Y nx n:Nat} {rs qs:List Nat} (h:zaf X Y nx n rs qs 0):vl 18446744073709551616 qs=X/Y∧vl 18446744073709551616 rs=X%Y:=by(
 have h1:=h.lt
 rw[Nat.pow_zero,Nat.mul_one] at h1
 have hY:0<Y:=by omega
 rw[h.val]
 exact⟨by rw[Nat.add_comm,Nat.mul_add_div hY,Nat.div_eq_of_lt h1,Nat.add_zero],by rw[Nat.add_comm,Nat.mul_add_mod,Nat.mod_eq_of_lt h1]⟩)
structure zhy (D Y n:Nat) (vs:List Nat) (q M:Nat):Prop where
 len:vs.length=n
 mem:∀ x ∈ vs,x < 18446744073709551616
 qb:q < 18446744073709551616
 mb:M < 18446744073709551616
 val:vl 18446744073709551616 vs+q*Y=D+M * 18446744073709551616^n
 hi:D<(q+1)*Y
theorem zhy.start (D Y n t:Nat) (vs0 vs:List Nat) (q c:Nat) (hY:Y < 18446744073709551616^n) (h0:D=vl 18446744073709551616 vs0+t * 18446744073709551616^n) (hl:vs.length=n) (hm:∀ x ∈ vs,x < 18446744073709551616) (hq:q < 18446744073709551616) (hc:c < 18446744073709551616) (hv:vl 18446744073709551616 vs+q*Y=vl 18446744073709551616 vs0+c * 18446744073709551616^n) (hh:D<(q+1)*Y):t≤c∧zhy D Y n vs q (c-t):=by(
 have htc:t≤c:=by
  rcases Nat.lt_or_ge c t with h | h
  ·exfalso
   have h1:(c+1) * 18446744073709551616^n≤t * 18446744073709551616^n:=Nat.mul_le_mul_right _ h
   rw[Nat.add_mul,Nat.one_mul] at h1 hh
   omega
  ·exact h
 refine⟨htc,hl,hm,hq,by omega,?_,hh⟩
 rw[h0,Nat.sub_mul]
 have:t * 18446744073709551616^n≤c * 18446744073709551616^n:=Nat.mul_le_mul_right _ htc
 omega)
theorem zhy.pos {D Y n:Nat} {vs:List Nat} {q M:Nat} (h:zhy D Y n vs q M) (hM:0<M):0<q∧D<q*Y:=by(
 have h1:=fe (by omega:0 < 18446744073709551616) vs h.mem
 rw[h.len] at h1
 have h2:=h.val
 have h3:18446744073709551616^n≤M * 18446744073709551616^n:=Nat.le_mul_of_pos_left _ hM
 refine⟨?_,by omega⟩
 rcases Nat.eq_zero_or_pos q with h0 | h0
 ·subst h0;rw[Nat.zero_mul] at h2;omega
 ·exact h0)
theorem zhy.step {D Y n:Nat} {vs:List Nat} {q M:Nat} (h:zhy D Y n vs (q+1) (M+1)) (vs':List Nat) (k:Nat) (hk:k≤1) (hl:vs'.length=n) (hm:∀ x ∈ vs',x < 18446744073709551616) (hv:vl 18446744073709551616 vs' + k * 18446744073709551616^n=vl 18446744073709551616 vs+Y):zhy D Y n vs' q (M+1-k):=by(
 have hp:=h.pos (by omega)
 have h1:=h.qb
 have h2:=h.mb
 have h3:=h.val
 refine⟨hl,hm,by omega,by omega,?_,hp.2⟩
 rw[Nat.sub_mul]
 have:k * 18446744073709551616^n≤(M+1) * 18446744073709551616^n:=Nat.mul_le_mul_right _ (by omega)
 rw[Nat.add_mul q 1,Nat.one_mul] at h3
 omega)
theorem zhy.fin {D Y n:Nat} {vs:List Nat} {q:Nat} (h:zhy D Y n vs q 0):vl 18446744073709551616 vs+q*Y=D∧vl 18446744073709551616 vs<Y:=by(
 have h1:=h.val
 have h2:=h.hi
 rw[Nat.zero_mul,Nat.add_zero] at h1
 rw[Nat.add_mul,Nat.one_mul] at h2
 exact⟨h1,by omega⟩)
end Go.Proofs.YtagmkkiagjmimaaGreatDoor
