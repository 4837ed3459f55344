/- Products of words and of whole numbers,  -/
import Derived.Laws.MakeOwn
import Derived.Deep.RegionHeld
import Derived.Test.YtagmkkiagjmimaaGreatDoorSH1
import Derived.Test.YtagmkkiagjmimaaGreatDoorSShelf
namespace Go.Proofs.YtagmkkiagjmimaaGreatDoor
set_option linter.unusedVariables false
open Go.Proofs.Tryz
open Go.RowKit
set_option maxHeartbeats 4000000
structure zek (xs ys rs:List Nat) (k:Nat):Prop where
 len:rs.length=xs.length+ys.length
 mem:∀ x ∈ rs,x<4294967296
 val:vl 4294967296 rs=vl 4294967296 (xs.take k)*vl 4294967296 ys
 zero:∀ j,k+ys.length≤j→rs[j]?.getD 0=0
structure zff (xs ys rs:List Nat) (k q c:Nat):Prop where
 len:rs.length=xs.length+ys.length
 mem:∀ x ∈ rs,x<4294967296
 carry:c<4294967296
 val:vl 4294967296 rs+c*4294967296^(k+q)=vl 4294967296 (xs.take k)*vl 4294967296 ys+xs[k]?.getD 0*4294967296^k*vl 4294967296 (ys.take q)
 zero:∀ j,k+ys.length≤j→rs[j]?.getD 0=0
theorem zek.start (xs ys:List Nat):zek xs ys (List.replicate (xs.length+ys.length) 0) 0 :=
 ⟨by simp,by intro x hx;rw[List.mem_replicate] at hx;omega,by simp[qp,vl],by
  intro j _
  rcases Nat.lt_or_ge j (xs.length+ys.length) with h | h
  ·rw[List.getElem?_replicate,if_pos h];rfl
  ·rw[List.getElem?_replicate,if_neg (by omega)];rfl⟩
theorem zff.start {xs ys rs:List Nat} {k:Nat} (h:zek xs ys rs k):zff xs ys rs k 0 0 :=
 ⟨h.len,h.mem,by omega,by simp[vl,h.val],h.zero⟩
theorem zff.step {xs ys rs:List Nat} {k q c:Nat} (h:zff xs ys rs k q c) (hx:xs[k]?.getD 0<4294967296) (hq:q<ys.length) (hk:k<xs.length) (hy:ys[q]?.getD 0<4294967296) (t:Nat) (ht:t=c+(xs[k]?.getD 0*ys[q]?.getD 0+rs[k+q]?.getD 0)) :
   t<18446744073709551616∧zff xs ys (rs.set (k+q) (t%4294967296)) k (q+1) (t/4294967296):=by(
 have hr:rs[k+q]?.getD 0<4294967296:=bt h.mem (by omega) _
 have hkq:k+q<rs.length:=by have:=h.len;omega
 have h1:xs[k]?.getD 0*ys[q]?.getD 0≤4294967295*4294967295:=Nat.mul_le_mul (by omega) (by omega)
 have hc:=h.carry
 have htl:t<18446744073709551616:=by omega
 refine⟨htl,by rw[List.length_set];exact h.len,mem_set h.mem _ _ (by omega),by omega,?_,fun j hj=>?_⟩
 ·(
 have h2:=wo 4294967296 rs (k+q) (t%4294967296) hkq
 have h3:=h.val
 have h4:=qh 4294967296 ys q hq
 have e1:xs[k]?.getD 0*4294967296^k*(ys[q]?.getD 0*4294967296^q)=xs[k]?.getD 0*ys[q]?.getD 0*4294967296^(k+q):=by
  rw[Nat.pow_add];simp only[Nat.mul_assoc,Nat.mul_left_comm]
 have e0:xs[k]?.getD 0*4294967296^k*vl 4294967296 (ys.take (q+1))=xs[k]?.getD 0*4294967296^k*vl 4294967296 (ys.take q)+xs[k]?.getD 0*ys[q]?.getD 0*4294967296^(k+q):=by rw[h4,Nat.mul_add,e1]
 rw[e0,← Nat.add_assoc k q 1,Nat.pow_succ]
 clear e0 e1 h4
 generalize 4294967296^(k+q)=P at *
 have e2:t/4294967296*(P*4294967296)=(4294967296*(t/4294967296))*P:=by rw[Nat.mul_comm P,← Nat.mul_assoc,Nat.mul_comm (t/4294967296)]
 have e3:t%4294967296*P+4294967296*(t/4294967296)*P=t*P:=by rw[← Nat.add_mul,Nat.mod_add_div]
 have e4:t*P=c*P+(xs[k]?.getD 0*ys[q]?.getD 0*P+rs[k+q]?.getD 0*P):=by rw[ht,Nat.add_mul,Nat.add_mul]
 rw[e2]
 omega)
 ·rw[List.getElem?_set_ne (by omega)];exact h.zero j hj)
theorem zff.fin {xs ys rs:List Nat} {k c:Nat} (h:zff xs ys rs k ys.length c) (hk:k<xs.length):zek xs ys (rs.set (k+ys.length) c) (k+1):=by(
 have hkq:k+ys.length<rs.length:=by have:=h.len;omega
 refine⟨by rw[List.length_set];exact h.len,mem_set h.mem _ _ h.carry,?_,fun j hj=>?_⟩
 ·have h2:=wo 4294967296 rs (k+ys.length) c hkq
  have h3:=h.val
  rw[h.zero _ (Nat.le_refl _),Nat.zero_mul,Nat.add_zero] at h2
  rw[h2,h3,List.take_length,qh 4294967296 xs k hk,Nat.add_mul]
 ·rw[List.getElem?_set_ne (by omega)];exact h.zero j (by omega))
theorem zek.fin {xs ys rs:List Nat} (h:zek xs ys rs xs.length):vl 4294967296 rs=vl 4294967296 xs*vl 4294967296 ys:=by rw[h.val,List.take_length]
theorem qga (va vb:Value) (m n:Nat) (w:World) (ha:Sl .u32 w va (wd 4294967296 m)) (hb:Sl .u32 w vb (wd 4294967296 n)) (hla:(wd 4294967296 m).length<1073741824) (hlb:(wd 4294967296 n).length<1073741824) :
   Calls prog 164 #[va,vb] w fun e w'=>∃ v',e=.returned v'∧Sl .u32 w' v' (wd 4294967296 (m*n))∧But [] w w':=by(
 have mm:=zo (B:=4294967296) (by omega) m
 have mn:=zo (B:=4294967296) (by omega) n
 have em:=qg (B:=4294967296) (by omega) m
 have en:=qg (B:=4294967296) (by omega) n
 generalize wd 4294967296 m=xs at *
 generalize wd 4294967296 n=ys at *
 subst em en
 rcases ha.open with ⟨rfl,a,cap,rfl⟩|⟨h0,b,off,cap,rfl,hc,hbl,hcell⟩
 ·(
 obtain⟨b',cap',rfl,-,-⟩:=hb
 go_enter func164,ntmps164
 go_wp2
 go_ret
 exact⟨_,rfl,by simp only[vl,Nat.zero_mul,zh];exact Sl.nil _ _,But.refl _ _⟩)
 ·(
 have n0:((xs.length:Int)==0)=false:=by simp;intro h;simp[h] at h0
 rcases hb.open with ⟨rfl,a,cap',rfl⟩|⟨h0',b',off',cap',rfl,hc',hbl',hcell'⟩
 ·go_enter func164,ntmps164
  go_wp2
  go_ret
  exact⟨_,rfl,by simp only[vl,Nat.mul_zero,zh];exact Sl.nil _ _,But.refl _ _⟩
 ·(
 have n0':((ys.length:Int)==0)=false:=by simp;intro h;simp[h] at h0'
 obtain⟨ti,hi,hz,hs,hbt⟩:=zco
 have hmk:=fun wx=>run_make (P:=prog) wx 109 238 ti (.int .u32 0) underlying109 hi hz .i64 .i64 ((xs.length:Int)+(ys.length:Int)) ((xs.length:Int)+(ys.length:Int)) (by omega) (by omega) (by rw[hbt];omega) (by omega)
 rw[hs] at hmk
 have et:((xs.length:Int)+(ys.length:Int)).toNat=xs.length+ys.length:=by omega
 rw[et,Nat.mul_one] at hmk
 clear hi hz hs hbt ti ha hb
 have HC:=af hcell
 have MM:=af mm
 have MN:=af mn
 clear mm mn
 have HC':=af hcell'
 clear hcell hcell' et
 go_enter func164,ntmps164
 go_wp2
 go_loopw [6] (fun i wr=>∃ (k:Nat) (rs:List Nat),k≤xs.length∧i=.int .i64 k∧Hid (zek xs ys rs k∧But [] w wr∧j5 .u32 wr w.heap.size rs∧w.heap.size<wr.heap.size)) (fun i _=>xs.length-(intOf i).toNat)
 case atStart=>exact⟨0,List.replicate (xs.length+ys.length) 0,Nat.zero_le _,rfl,zek.start xs ys,(But.refl _ _).alloc _,j5.made _ _ _ _,by simp⟩
 case round =>(
 obtain⟨k,rs,hk,rfl,HI⟩:=hrel
 rename World=>wr
 by_cases hlt:k<xs.length
 ·(
 have cx:=(ae HI).2.1.ag (ae HC k hlt) (by simp)
 have hxB:xs[k]?.getD 0<4294967296:=bt (ae MM) (by omega) k
 have II:Hid (zff xs ys rs k 0 0∧But [] w wr∧j5 .u32 wr w.heap.size rs∧w.heap.size<wr.heap.size):=⟨zff.start (ae HI).1,(ae HI).2⟩
 go_wp2
 go_loopw [7,8] (fun c j wq=>∃ (q cN:Nat) (rq:List Nat),q≤ys.length∧j=.int .i64 q∧c=.int .u64 cN∧cN<4294967296∧Hid (zff xs ys rq k q cN∧But [] w wq∧j5 .u32 wq w.heap.size rq∧w.heap.size<wq.heap.size)) (fun _ j _=>ys.length-(intOf j).toNat)
 case atStart=>exact⟨0,0,rs,Nat.zero_le _,rfl,rfl,by omega,II⟩
 case round =>(
 clear cx II HI
 obtain⟨q,cN,rq,hq,rfl,rfl,hcN,HJ⟩:=hrel
 rename World=>wq
 by_cases hlt':q<ys.length
 ·(
 have hrl:k+q<rq.length:=by have:=(ae HJ).1.len;omega
 have cx:=(ae HJ).2.1.ag (ae HC k hlt) (by simp)
 have cy:=(ae HJ).2.1.ag (ae HC' q hlt') (by simp)
 have hyB:ys[q]?.getD 0<4294967296:=bt (ae MN) (by omega) q
 have hrB:rq[k+q]?.getD 0<4294967296:=bt (ae HJ).1.mem (by omega) _
 have cr:=((ae HJ).2.2.1.row (k+q) hrl).1
 have fr:=((ae HJ).2.2.1.row (k+q) hrl).2
 have ST:=af ((ae HJ).1.step hxB hlt' hlt hyB _ rfl)
 have h1:xs[k]?.getD 0*ys[q]?.getD 0≤4294967295*4294967295:=Nat.mul_le_mul (by omega) (by omega)
 generalize xs[k]?.getD 0=x at *
 generalize ys[q]?.getD 0=y at *
 generalize rq[k+q]?.getD 0=r at *
 go_wp2
 go_quiet (fail)
 go_wp2
 have hS:=ae ST
 have hR:=(ae HJ).2.2.1
 have e1:((cN:Int)+((x:Int)*(y:Int)+(r:Int)))=((cN+(x*y+r):Nat):Int):=by simp
 rw[e1]
 generalize cN+(x*y+r)=t at *
 have e2:(t:Int)%4294967296=((t%4294967296:Nat):Int):=by omega
 have e3:(t:Int)/4294967296=((t/4294967296:Nat):Int):=by omega
 rw[e2,e3]
 refine⟨⟨q+1,t/4294967296,rq.set (k+q) (t%4294967296),by omega,by go_num,rfl,hS.2.carry,hS.2,((ae HJ).2.1.drewN nq).setCell (by simp) _,j5.set (hR.drewN nq) _ hrl _,by rw[World.size_setCell];exact (ae HJ).2.2.2⟩,?_⟩
 simp[intOf];omega)
 ·(
 have hqe:q=ys.length:=by omega
 subst hqe
 have hrl:k+ys.length<rq.length:=by have:=(ae HJ).1.len;omega
 obtain⟨cr,fr⟩:=(ae HJ).2.2.1.row (k+ys.length) hrl
 go_wp2
 refine⟨⟨k+1,rq.set (k+ys.length) cN,by omega,by go_num,(ae HJ).1.fin hlt,(ae HJ).2.1.setCell (by simp) _,(ae HJ).2.2.1.set _ hrl _,by rw[World.size_setCell];exact (ae HJ).2.2.2⟩,?_⟩
 simp[intOf];omega)))
 ·(
 go_wp2_with fail
 have hke:k=xs.length:=by omega
 subst hke
 have hO:=(ae HI).1
 have hS:=(ae HI).2.2.1.sl (xs.length+ys.length) (by rw[hO.len];exact Nat.le_refl _)
 rw[hO.len] at hS
 refine (zfs _ rs _ hS hO.mem (by rw[hO.len];omega)).mono ?_
 rintro e w' ⟨v',rfl,hs,rfl⟩
 go_wp2
 go_ret
 rw[hO.fin] at hs
 exact⟨v',rfl,hs,(ae HI).2.1⟩)))))
theorem zxn (x y:Int):((decide (x<0) != decide (y<0)) && decide (0<(wd 4294967296 (x.natAbs*y.natAbs)).length))=decide (x*y<0):=by(
 have h:=ze (B:=4294967296) (by omega) (x.natAbs*y.natAbs)
 rw[← Int.natAbs_mul] at h ⊢
 rw[← zoq (x*y)]
 by_cases h0:0<(wd 4294967296 (x*y).natAbs).length
 ·(
 have hne:x*y≠0:=by intro e;rw[e] at h0;simp[zh] at h0
 have hx:x≠0:=by rintro rfl;simp at hne
 have hy:y≠0:=by rintro rfl;simp at hne
 simp only[h0,decide_true,Bool.and_true]
 rcases Int.lt_or_gt_of_ne hx with hx | hx <;> rcases Int.lt_or_gt_of_ne hy with hy | hy
 ·have:=Int.mul_pos_of_neg_of_neg hx hy
  simp[hx,hy];omega
 ·have:=Int.mul_neg_of_neg_of_pos hx hy
  have:¬ y<0:=by omega
  simp[*]
 ·have:=Int.mul_neg_of_pos_of_neg hx hy
  have:¬ x<0:=by omega
  simp[*]
 ·(
 have:=Int.mul_pos hx hy
 have:¬ x<0:=by omega
 have:¬ y<0:=by omega
 have:¬ x*y<0:=by omega
 simp[*]))
 ·simp only[h0,decide_false,Bool.and_false])
theorem zkw (b o b1 o1 b2 o2:Nat) (x y:Int) (w:World) (hs:Slot w b o) (hne1:b≠b1) (hne2:b≠b2) (hx:za w b1 o1 x) (hy:za w b2 o2 y) (hlx:(wd 4294967296 x.natAbs).length<1073741824) (hly:(wd 4294967296 y.natAbs).length<1073741824) (hlen:(wd 4294967296 (x.natAbs*y.natAbs)).length<2147483648) :
   Calls prog 85 #[.pointer (some ⟨b,o,none⟩),.pointer (some ⟨b1,o1,none⟩),.pointer (some ⟨b2,o2,none⟩)] w fun e w'=>e=.returned (.pointer (some ⟨b,o,none⟩))∧∃ w1 v,But [] w w1∧Sl .u32 w1 v (wd 4294967296 (x*y).natAbs)∧w'=oo w1 b o v (decide (x*y<0)):=by(
 obtain⟨h0,v0,h1,hv⟩:=hx
 obtain⟨g0,u0,g1,hu⟩:=hy
 have HS:=af (zxn x y)
 generalize hsx:decide (x<0)=sx at h0 HS
 generalize hsy:decide (y<0)=sy at g0 HS
 clear hsx hsy
 go_enter func85,ntmps85
 go_wp2
 go_region_held (fun w'=>w'.cell? ⟨b1,o1,none⟩=some (.bool sx)∧w'.cell? ⟨b1,o1+1,none⟩=some v0∧w'.cell? ⟨b2,o2,none⟩=some (.bool sy)∧w'.cell? ⟨b2,o2+1,none⟩=some u0) (go_keep) (first
  | (go_at_call 164;refine (qga v0 u0 _ _ _ ?_ ?_ hlx hly).mono ?_;exact hv;exact hu;rintro e w1 ⟨v,rfl,hv1,hb⟩;have hb0:But [] w w1:=(by first | exact hb | exact (But.refl _ _).drew.trans' hb | exact ((But.refl _ _).drewN _).trans' hb);have k0:=hb0.ag h0 (by simp);have k1:=hb0.ag h1 (by simp);have k2:=hb0.ag g0 (by simp);have k3:=hb0.ag g1 (by simp))
  | (go_at_call 153;(obtain⟨⟨s0,hc0⟩,⟨a0,n0,c0,hc1⟩,f0,f1⟩:=hs.but hb0 (by simp));refine (zcp b o _ v _ (.bool s0) (.slice a0 n0 c0) _ hv1 hlen hc0 hc1 f0 f1).mono ?_;rintro e w2 ⟨rfl,rfl⟩))
 all_goals go_wp2
 all_goals go_ret
 all_goals refine⟨rfl,w1,v,hb0,by rw[Int.natAbs_mul];exact hv1,?_⟩
 all_goals (rw[← ae HS];rfl))
end Go.Proofs.YtagmkkiagjmimaaGreatDoor
