/- Plain facts on fractions: what a sum and -/
import Derived.Laws.MakeOwn
import Derived.Laws.Bits64b
import Derived.Test.YtpmjeclpkahkmaaGreatDoorVH1
import Derived.Test.YtpmjeclpkahkmaaGreatDoorVN12f
namespace Go.Proofs.YtpmjeclpkahkmaaGreatDoor
set_option linter.unusedVariables false
open Go.Proofs.Tryz
set_option maxHeartbeats 4000000
set_option maxRecDepth 100000
theorem mg (n:Int) (d:Nat) (hd:d≠0) (hc:n.natAbs.Coprime d) (q:Rat) (h:q.num*d=n*q.den):q.num=n∧q.den=d:=by(
have e:q=⟨n,d,hd,hc⟩:=by
 rw[Rat.mk_eq_mkRat,← Rat.mkRat_self q,Rat.mkRat_eq_iff q.den_nz hd]
 exact h
rw[e]
exact⟨rfl,rfl⟩)
def sgn (s:Bool) (m:Nat):Int:=if s then -(m:Int) else (m:Int)
theorem jk (s:Bool) (m:Nat):(sgn s m).natAbs=m:=by cases s <;> simp[sgn]
theorem zau (s:Bool) (m k:Nat):sgn s (m*k)=sgn s m*k:=by cases s <;> simp[sgn,Int.neg_mul]
theorem zqf (f g:Rat):(f+g).num*(f.den*g.den:Nat)=(f.num*g.den+g.num*f.den)*(f+g).den:=by(
have h:=Rat.add_def' f g
rw[← Rat.mkRat_self (f+g),Rat.mkRat_eq_iff (f+g).den_nz (Nat.mul_ne_zero f.den_nz g.den_nz)] at h
exact h)
theorem zcf (f g:Rat):(f*g).num*(f.den*g.den:Nat)=(f.num*g.num)*(f*g).den:=by(
have h:=Rat.mul_def' f g
rw[← Rat.mkRat_self (f*g),Rat.mkRat_eq_iff (f*g).den_nz (Nat.mul_ne_zero f.den_nz g.den_nz)] at h
exact h)
theorem zzc (a c:Int) (b b' d':Nat) (hab:a.natAbs.Coprime b) (hb:b' ∣ b) (hbd:b'.Coprime d'):(a*d' + c*b').natAbs.Coprime b':=by(
rw[Nat.Coprime]
have hp1:Nat.gcd (a*d' + c*b').natAbs b' ∣ b':=Nat.gcd_dvd_right _ _
have hp2:Nat.gcd (a*d' + c*b').natAbs b' ∣ (a*d' + c*b').natAbs:=Nat.gcd_dvd_left _ _
generalize Nat.gcd (a*d' + c*b').natAbs b'=p at *
have h1:(p:Int) ∣ a*d' + c*b':=Int.ofNat_dvd_left.2 hp2
have h2:(p:Int) ∣ c*b':=Int.dvd_mul_of_dvd_right (Int.natCast_dvd_natCast.2 hp1)
have h3:(p:Int) ∣ a*d':=(Int.dvd_add_left h2).1 h1
have h4:p ∣ a.natAbs*d':=by
 have:=Int.ofNat_dvd_left.1 h3
 rwa [Int.natAbs_mul,Int.natAbs_natCast] at this
have h5:p.Coprime a.natAbs:=Nat.Coprime.coprime_dvd_left (Nat.dvd_trans hp1 hb) hab.symm
have h6:p ∣ d':=h5.dvd_of_dvd_mul_left h4
have h7:p ∣ Nat.gcd b' d':=Nat.dvd_gcd hp1 h6
rw[hbd] at h7
exact Nat.dvd_one.1 h7)
theorem zsa (f g:Rat) (s:Bool) (M k m:Nat) (hk:k=Nat.gcd f.den g.den) (hm:m=Nat.gcd M k) (hN:f.num*(g.den/k:Nat)+g.num*(f.den/k:Nat)=sgn s M):(f+g).num=sgn s (M/m)∧(f+g).den=(f.den/k)*(g.den/m):=by(
have hb0:0<f.den:=Nat.pos_of_ne_zero f.den_nz
have hd0:0<g.den:=Nat.pos_of_ne_zero g.den_nz
have hk0:0<k:=by rw[hk];exact Nat.gcd_pos_of_pos_left _ hb0
have kb:k ∣ f.den:=by rw[hk];exact Nat.gcd_dvd_left _ _
have kd:k ∣ g.den:=by rw[hk];exact Nat.gcd_dvd_right _ _
have hcop:(f.den/k).Coprime (g.den/k):=by rw[hk];exact Nat.coprime_div_gcd_div_gcd (by rw[← hk];exact hk0)
have hm0:0<m:=by rw[hm];exact Nat.gcd_pos_of_pos_right _ hk0
have mk:m ∣ k:=by rw[hm];exact Nat.gcd_dvd_right _ _
have mM:m ∣ M:=by rw[hm];exact Nat.gcd_dvd_left _ _
have c1:M.Coprime (f.den/k):=by
 have:=zzc f.num g.num f.den (f.den/k) (g.den/k) f.reduced (Nat.div_dvd_of_dvd kb) hcop
 rwa [hN,jk] at this
have c2:M.Coprime (g.den/k):=by
 have:=zzc g.num f.num g.den (g.den/k) (f.den/k) g.reduced (Nat.div_dvd_of_dvd kd) hcop.symm
 rw[Int.add_comm] at this
 rwa [hN,jk] at this
have c3:(M/m).Coprime (k/m):=by rw[hm];exact Nat.coprime_div_gcd_div_gcd (by rw[← hm];exact hm0)
obtain⟨b',hb'⟩:=kb
obtain⟨d',hd'⟩:=kd
obtain⟨k',hk'⟩:=mk
obtain⟨M',hM'⟩:=mM
have e1:f.den/k=b':=by rw[hb',Nat.mul_div_cancel_left _ hk0]
have e2:g.den/k=d':=by rw[hd',Nat.mul_div_cancel_left _ hk0]
have e3:k/m=k':=by rw[hk',Nat.mul_div_cancel_left _ hm0]
have e4:M/m=M':=by rw[hM',Nat.mul_div_cancel_left _ hm0]
have e5:g.den/m=k' * d':=by rw[hd',hk',Nat.mul_assoc,Nat.mul_div_cancel_left _ hm0]
rw[e1,e2] at hN
rw[e1] at c1
rw[e2] at c2
rw[e3,e4] at c3
rw[e1,e4,e5]
have c1':M'.Coprime b':=Nat.Coprime.coprime_dvd_left ⟨m,by rw[hM',Nat.mul_comm]⟩ c1
have c2':M'.Coprime d':=Nat.Coprime.coprime_dvd_left ⟨m,by rw[hM',Nat.mul_comm]⟩ c2
have hb1:b'≠0:=by rintro rfl;rw[Nat.mul_zero] at hb';omega
have hd1:d'≠0:=by rintro rfl;rw[Nat.mul_zero] at hd';omega
have hk1:k'≠0:=by rintro rfl;rw[Nat.mul_zero] at hk';omega
refine mg _ _ (Nat.mul_ne_zero hb1 (Nat.mul_ne_zero hk1 hd1)) (by rw[jk];exact c1'.mul_right (c3.mul_right c2')) _ ?_
have hx:=zqf f g
generalize (f+g).num=n at *
generalize (f+g).den=e at *
have hs:sgn s M=sgn s M' * m:=by rw[hM',Nat.mul_comm,zau]
rw[hs] at hN
rw[hb',hd',hk'] at hx
have hmz:(m:Int)≠0:=by omega
have hkz:(k':Int)≠0:=by omega
have hx2:(n*((b' * (k' * d'):Nat):Int))*(m*m*k')=(sgn s M' * e)*(m*m*k'):=by
 have h5:(f.num*(d':Int)+g.num*b')*(m*k')*e*m=sgn s M' * m*(m*k')*e*m:=by rw[hN]
 simp only[Int.natCast_mul] at hx ⊢
 grind
exact Int.eq_of_mul_eq_mul_right (Int.mul_ne_zero (Int.mul_ne_zero hmz hmz) hkz) hx2)
theorem zgr (f:Rat):f.num=sgn (decide (f.num<0)) f.num.natAbs:=by(
unfold sgn
by_cases h:f.num<0
·simp only[h,decide_true,if_true];omega
·simp only[h,decide_false,Bool.false_eq_true,if_false];omega)
theorem zrk (f g:Rat) (p q:Nat) (hp:p=Nat.gcd f.num.natAbs g.den) (hq:q=Nat.gcd g.num.natAbs f.den):(f*g).num=sgn (decide (f.num<0) != decide (g.num<0)) (f.num.natAbs/p*(g.num.natAbs/q))∧(f*g).den=(f.den/q)*(g.den/p):=by(
have hb0:0<f.den:=Nat.pos_of_ne_zero f.den_nz
have hd0:0<g.den:=Nat.pos_of_ne_zero g.den_nz
have hp0:0<p:=by rw[hp];exact Nat.gcd_pos_of_pos_right _ hd0
have hq0:0<q:=by rw[hq];exact Nat.gcd_pos_of_pos_right _ hb0
have pa:p ∣ f.num.natAbs:=by rw[hp];exact Nat.gcd_dvd_left _ _
have pd:p ∣ g.den:=by rw[hp];exact Nat.gcd_dvd_right _ _
have qc:q ∣ g.num.natAbs:=by rw[hq];exact Nat.gcd_dvd_left _ _
have qb:q ∣ f.den:=by rw[hq];exact Nat.gcd_dvd_right _ _
have c1:(f.num.natAbs/p).Coprime (g.den/p):=by rw[hp];exact Nat.coprime_div_gcd_div_gcd (by rw[← hp];exact hp0)
have c2:(g.num.natAbs/q).Coprime (f.den/q):=by rw[hq];exact Nat.coprime_div_gcd_div_gcd (by rw[← hq];exact hq0)
have c3:(f.num.natAbs/p).Coprime (f.den/q):=Nat.Coprime.coprime_dvd_left (Nat.div_dvd_of_dvd pa) (Nat.Coprime.coprime_dvd_right (Nat.div_dvd_of_dvd qb) f.reduced)
have c4:(g.num.natAbs/q).Coprime (g.den/p):=Nat.Coprime.coprime_dvd_left (Nat.div_dvd_of_dvd qc) (Nat.Coprime.coprime_dvd_right (Nat.div_dvd_of_dvd pd) g.reduced)
have hx:=zcf f g
rw[zgr f,zgr g] at hx
generalize decide (f.num<0)=s at *
generalize decide (g.num<0)=t at *
have nz1:f.den/q≠0:=Nat.ne_of_gt (Nat.div_pos (Nat.le_of_dvd hb0 qb) hq0)
have nz2:g.den/p≠0:=Nat.ne_of_gt (Nat.div_pos (Nat.le_of_dvd hd0 pd) hp0)
refine mg _ _ (Nat.mul_ne_zero nz1 nz2) (by rw[jk];exact (c3.mul_right c1).mul_left (c2.mul_right c4)) _ ?_
obtain⟨a',ha⟩:=pa
obtain⟨d',hd⟩:=pd
obtain⟨c',hc⟩:=qc
obtain⟨b',hb⟩:=qb
rw[ha,hc,hb,hd] at hx
rw[ha,hc,hb,hd,Nat.mul_div_cancel_left _ hp0,Nat.mul_div_cancel_left _ hq0,Nat.mul_div_cancel_left _ hq0,Nat.mul_div_cancel_left _ hp0]
generalize (f*g).num=n at *
generalize (f*g).den=e at *
have hpz:(p:Int)≠0:=by omega
have hqz:(q:Int)≠0:=by omega
refine Int.eq_of_mul_eq_mul_right (a:=(p*q:Int)) (Int.mul_ne_zero hpz hqz) ?_
cases s <;> cases t <;> simp only[sgn,Int.natCast_mul,bne_self_eq_false,Bool.false_eq_true,if_false,if_true,Bool.not_false,Bool.bne_false,Bool.bne_true] at hx ⊢ <;> grind)
open Go.RowKit
def zax (X Y xx xy yx yy:Nat) (back:Bool):Prop:=xy=0∨∃ X' Y':Nat,(if back then X' + xx*X=xy*Y∧Y' + yy*Y=yx*X else X' + xy*Y=xx*X∧Y' + yx*X=yy*Y)∧Y' < X'∧X'≤Y∧Nat.gcd X' Y'=Nat.gcd X Y
theorem zax.of {a0 b0 a b xx xy yx yy:Nat} {back:Bool} (h:Lst a0 b0 a b xx xy yx yy back) (X Y K ε δ:Nat) (hX:X=a0*K+ε) (hY:Y=b0*K+δ) (hε:ε<K) (hδ:δ<K):zax X Y xx xy yx yy back:=by(
obtain⟨h1,-,h2 | h2⟩:=h
·exact .inl h2.2.1
·exact .inr (h1.apply h2 X Y K ε δ hX hY hε hδ))
theorem zeu (wr:World) (gz:Nat) (t:TypeId) (v0 v1 v2 v3 v4 u0 u1 u2 u3 u4:Value) (cs:Array Value) (h:gz<wr.heap.size) (c0:wr.cell? ⟨gz,0,none⟩=some u0) (c1:wr.cell? ⟨gz,1,none⟩=some u1) (c2:wr.cell? ⟨gz,2,none⟩=some u2) (c3:wr.cell? ⟨gz,3,none⟩=some u3) (c4:wr.cell? ⟨gz,4,none⟩=some u4) (hf:∀ j,wr.frozen? ⟨gz,j,none⟩=false) :
  (((((((wr.setCell ⟨gz,0,none⟩ v0).setCell ⟨gz,1,none⟩ v1).setCell ⟨gz,2,none⟩ v2).setCell ⟨gz,3,none⟩ v3).setCell ⟨gz,4,none⟩ v4).alloc (.cells cs t)).cell? ⟨gz,0,none⟩=some v0 ∧
  ((((((wr.setCell ⟨gz,0,none⟩ v0).setCell ⟨gz,1,none⟩ v1).setCell ⟨gz,2,none⟩ v2).setCell ⟨gz,3,none⟩ v3).setCell ⟨gz,4,none⟩ v4).alloc (.cells cs t)).cell? ⟨gz,1,none⟩=some v1 ∧
  ((((((wr.setCell ⟨gz,0,none⟩ v0).setCell ⟨gz,1,none⟩ v1).setCell ⟨gz,2,none⟩ v2).setCell ⟨gz,3,none⟩ v3).setCell ⟨gz,4,none⟩ v4).alloc (.cells cs t)).cell? ⟨gz,2,none⟩=some v2 ∧
  ((((((wr.setCell ⟨gz,0,none⟩ v0).setCell ⟨gz,1,none⟩ v1).setCell ⟨gz,2,none⟩ v2).setCell ⟨gz,3,none⟩ v3).setCell ⟨gz,4,none⟩ v4).alloc (.cells cs t)).cell? ⟨gz,3,none⟩=some v3 ∧
  ((((((wr.setCell ⟨gz,0,none⟩ v0).setCell ⟨gz,1,none⟩ v1).setCell ⟨gz,2,none⟩ v2).setCell ⟨gz,3,none⟩ v3).setCell ⟨gz,4,none⟩ v4).alloc (.cells cs t)).cell? ⟨gz,4,none⟩=some v4) ∧
  ∀ j,((((((wr.setCell ⟨gz,0,none⟩ v0).setCell ⟨gz,1,none⟩ v1).setCell ⟨gz,2,none⟩ v2).setCell ⟨gz,3,none⟩ v3).setCell ⟨gz,4,none⟩ v4).alloc (.cells cs t)).frozen? ⟨gz,j,none⟩=false:=by(
have e0:∀ (w:World) (o:Obj) (p:Addr),p.block<w.heap.size→(w.alloc o).cell? p=w.cell? p:=fun w o p hp=>((But.refl [] w).alloc o).cell hp (by simp)
have e1:∀ (w:World) (o:Obj) (p:Addr),p.block<w.heap.size→(w.alloc o).frozen? p=w.frozen? p:=fun w o p hp=>((But.refl [] w).alloc o).frozen hp (by simp)
have k0:=World.cell?_setCell_same wr ⟨gz,0,none⟩ v0 c0
have k1:=World.cell?_setCell_same (wr.setCell ⟨gz,0,none⟩ v0) ⟨gz,1,none⟩ v1 (u:=u1) (by rw[World.cell?_setCell_other _ _ _ _ (by simp)];exact c1)
have k2:=World.cell?_setCell_same ((wr.setCell ⟨gz,0,none⟩ v0).setCell ⟨gz,1,none⟩ v1) ⟨gz,2,none⟩ v2 (u:=u2) (by rw[World.cell?_setCell_other _ _ _ _ (by simp),World.cell?_setCell_other _ _ _ _ (by simp)];exact c2)
have k3:=World.cell?_setCell_same (((wr.setCell ⟨gz,0,none⟩ v0).setCell ⟨gz,1,none⟩ v1).setCell ⟨gz,2,none⟩ v2) ⟨gz,3,none⟩ v3 (u:=u3) (by rw[World.cell?_setCell_other _ _ _ _ (by simp),World.cell?_setCell_other _ _ _ _ (by simp),World.cell?_setCell_other _ _ _ _ (by simp)];exact c3)
have k4:=World.cell?_setCell_same ((((wr.setCell ⟨gz,0,none⟩ v0).setCell ⟨gz,1,none⟩ v1).setCell ⟨gz,2,none⟩ v2).setCell ⟨gz,3,none⟩ v3) ⟨gz,4,none⟩ v4 (u:=u4) (by rw[World.cell?_setCell_other _ _ _ _ (by simp),World.cell?_setCell_other _ _ _ _ (by simp),World.cell?_setCell_other _ _ _ _ (by simp),World.cell?_setCell_other _ _ _ _ (by simp)];exact c4)
refine⟨⟨?_,?_,?_,?_,?_⟩,fun j=>?_⟩
·rw[e0 _ _ _ (by simpa using h),World.cell?_setCell_other _ _ _ _ (by simp),World.cell?_setCell_other _ _ _ _ (by simp),World.cell?_setCell_other _ _ _ _ (by simp),World.cell?_setCell_other _ _ _ _ (by simp)];exact k0
·rw[e0 _ _ _ (by simpa using h),World.cell?_setCell_other _ _ _ _ (by simp),World.cell?_setCell_other _ _ _ _ (by simp),World.cell?_setCell_other _ _ _ _ (by simp)];exact k1
·rw[e0 _ _ _ (by simpa using h),World.cell?_setCell_other _ _ _ _ (by simp),World.cell?_setCell_other _ _ _ _ (by simp)];exact k2
·rw[e0 _ _ _ (by simpa using h),World.cell?_setCell_other _ _ _ _ (by simp)];exact k3
·rw[e0 _ _ _ (by simpa using h)];exact k4
·rw[e1 _ _ _ (by simpa using h)]
 simp only[World.frozen?_setCell]
 exact hf j)
structure zoe (X x N:Nat):Prop where
 lo:9223372036854775808≤x
 hi:x < 18446744073709551616
 ge:x*2^N≤X*9223372036854775808
 lt:X*9223372036854775808<(x+1)*2^N
theorem qee (k:Nat) (h:k≤63):2^k*2^(63-k)=9223372036854775808:=by
 rw[← Nat.pow_add,show k+(63-k)=63 from by omega]
theorem qfy (t k:Nat) (hk:k≤63) (h1:9223372036854775808≤t*2^k) (h2:t*2^k < 18446744073709551616):zoe t (t*2^k) (63-k):=by(
have hp:0<2^(63-k):=Nat.pow_pos (by omega)
refine⟨h1,h2,?_,?_⟩
·rw[Nat.mul_assoc,qee k hk];omega
·rw[Nat.add_mul,Nat.mul_assoc,qee k hk];omega)
theorem qbo (X R P m s t k:Nat) (hP:P=18446744073709551616^m) (hX:X=R+P*(s + 18446744073709551616*t)) (hR:R<P) (hs:s < 18446744073709551616) (hk:k≤63) (h1:9223372036854775808≤t*2^k) (h2:t*2^k < 18446744073709551616) :
  zoe X (t*2^k+s/2^(64-k)) (64*(m+1)+63-k)∧s/2^(64-k)<2^k:=by(
have hB:18446744073709551616=2^(64-k)*2^k:=by rw[← Nat.pow_add,show 64-k+k=64 from by omega]
have hK:0<2^k:=Nat.pow_pos (by omega)
have hQ:0<2^(64-k):=Nat.pow_pos (by omega)
have hu:s/2^(64-k)<2^k:=by rw[Nat.div_lt_iff_lt_mul hQ,Nat.mul_comm,← hB];exact hs
have hd:=Nat.div_add_mod s (2^(64-k))
have hr:=Nat.mod_lt s hQ
have e63:=qee k hk
have hN:2^(64*(m+1)+63-k)=P * 18446744073709551616*2^(63-k):=by
 rw[hP,show 64*(m+1)+63-k=64*m+64+(63-k) from by omega,Nat.pow_add,Nat.pow_add,Nat.pow_mul]
have hz:0<2^(63-k):=Nat.pow_pos (by omega)
generalize hu1:s/2^(64-k)=u at *
generalize s%2^(64-k)=r at *
generalize 64*(m+1)+63-k=N at *
generalize 2^(63-k)=z at *
generalize 2^(64-k)=Q at *
generalize 2^k=K at *
have htQ:t<Q:=by rw[hB] at h2;exact Nat.lt_of_mul_lt_mul_right h2
have hx:t*K+u < 18446744073709551616:=by
 have:(t+1)*K≤Q*K:=Nat.mul_le_mul_right _ htQ
 rw[← hB,Nat.add_mul] at this;omega
have eX:X*K=R*K+P*((t*K+u) * 18446744073709551616+r*K):=by rw[hX,← hd,hB];grind
have hrK:r*K+K≤18446744073709551616:=by
 have:(r+1)*K≤Q*K:=Nat.mul_le_mul_right _ hr
 rw[← hB,Nat.add_mul] at this;omega
have hRK:R*K<P*K:=Nat.mul_lt_mul_of_pos_right hR hK
have g1:(t*K+u)*(P * 18446744073709551616)≤X*K:=by
 rw[eX]
 have:P*((t*K+u) * 18446744073709551616)≤P*((t*K+u) * 18446744073709551616+r*K):=Nat.mul_le_mul_left _ (by omega)
 have e:(t*K+u)*(P * 18446744073709551616)=P*((t*K+u) * 18446744073709551616):=by grind
 omega
have g2:X*K<(t*K+u+1)*(P * 18446744073709551616):=by
 rw[eX]
 have h3:P*((t*K+u) * 18446744073709551616+r*K+K)≤P*((t*K+u) * 18446744073709551616 + 18446744073709551616):=Nat.mul_le_mul_left _ (by omega)
 have e:(t*K+u+1)*(P * 18446744073709551616)=P*((t*K+u) * 18446744073709551616 + 18446744073709551616):=by grind
 have e2:P*((t*K+u) * 18446744073709551616+r*K+K)=P*((t*K+u) * 18446744073709551616+r*K)+P*K:=by grind
 omega
refine⟨⟨by omega,hx,?_,?_⟩,hu⟩
·rw[hN,← e63,← Nat.mul_assoc X,← Nat.mul_assoc (t*K+u)];exact Nat.mul_le_mul_right _ g1
·rw[hN,← e63,← Nat.mul_assoc X,← Nat.mul_assoc (t*K+u+1)];exact Nat.mul_lt_mul_of_pos_right g2 hz)
structure zod (Z p K:Nat):Prop where
 lo:9223372036854775808≤p
 hi:p < 18446744073709551616
 ge:p*2^K≤Z*85070591730234615865843651857942052864
 lt:Z*85070591730234615865843651857942052864<(p+8)*2^K
theorem qbn (A C x y n m z:Nat) (h1:x*n≤A*z) (h2:A*z<(x+1)*n) (g1:y*m≤C*z) (g2:C*z<(y+1)*m):x*y*(n*m)≤A*C*(z*z)∧A*C*(z*z)<(x+1)*(y+1)*(n*m):=by(
have h1:=Nat.mul_le_mul h1 g1
have h2:=Nat.mul_lt_mul'' h2 g2
constructor
·have e1:x*n*(y*m)=x*y*(n*m):=by grind
 have e2:A*z*(C*z)=A*C*(z*z):=by grind
 rw[← e1,← e2];exact h1
·have e1:(x+1)*n*((y+1)*m)=(x+1)*(y+1)*(n*m):=by grind
 have e2:A*z*(C*z)=A*C*(z*z):=by grind
 rw[← e1,← e2];exact h2)
theorem ztx {A C x y N M:Nat} (h:zoe A x N) (g:zoe C y M):x*y*2^(N+M)≤A*C*85070591730234615865843651857942052864∧A*C*85070591730234615865843651857942052864<(x+1)*(y+1)*2^(N+M):=by(
have e:=qbn A C x y _ _ _ h.ge h.lt g.ge g.lt
rw[← Nat.pow_add] at e
exact e)
theorem zpt {A C x y N M:Nat} (h:zoe A x N) (g:zoe C y M):85070591730234615865843651857942052864≤x*y∧(x+1)*(y+1)≤x*y + 18446744073709551616 + 18446744073709551616:=by(
have h1:=h.hi
have h2:=g.hi
have h3:=Nat.mul_le_mul h.lo g.lo
have e:(x+1)*(y+1)=x*y+x+y+1:=by grind
refine⟨h3,?_⟩
rw[e]
generalize x*y=u
omega)
theorem zww (u v:Nat) (hv:v≤u + 18446744073709551616 + 18446744073709551616):u / 18446744073709551616 * 18446744073709551616≤u∧v≤(u / 18446744073709551616+8) * 18446744073709551616:=⟨by omega,by omega⟩
theorem qbm (u v:Nat) (hv:v≤u + 18446744073709551616 + 18446744073709551616):u/9223372036854775808*9223372036854775808≤u∧v≤(u/9223372036854775808+8)*9223372036854775808:=⟨by omega,by omega⟩
theorem qmt (u:Nat):u / 18446744073709551616*2+u % 18446744073709551616/9223372036854775808=u/9223372036854775808:=by omega
theorem zwp (u:Nat) (h1:85070591730234615865843651857942052864≤u) (h2:u / 18446744073709551616<9223372036854775808):9223372036854775808≤u/9223372036854775808∧u/9223372036854775808 < 18446744073709551616:=by(
constructor
·rw[Nat.le_div_iff_mul_le (by omega)];exact h1
·omega)
theorem zwu {A C x y N M:Nat} (h:zoe A x N) (g:zoe C y M) (hh:9223372036854775808≤x*y / 18446744073709551616):zod (A*C) (x*y / 18446744073709551616) (N+M+64):=by(
obtain⟨a1,a2⟩:=ztx h g
obtain⟨b1,b3⟩:=zpt h g
have b4:x*y / 18446744073709551616 < 18446744073709551616:=by rw[Nat.div_lt_iff_lt_mul (by omega)];exact Nat.mul_lt_mul'' h.hi g.hi
obtain⟨c1,c2⟩:=zww _ _ b3
have e64:2^(N+M+64)=18446744073709551616*2^(N+M):=by rw[Nat.pow_add,Nat.mul_comm]
refine⟨hh,b4,?_,?_⟩
·rw[e64,← Nat.mul_assoc];exact Nat.le_trans (Nat.mul_le_mul_right _ c1) a1
·rw[e64,← Nat.mul_assoc];exact Nat.lt_of_lt_of_le a2 (Nat.mul_le_mul_right _ c2))
theorem qbp {A C x y N M:Nat} (h:zoe A x N) (g:zoe C y M) (hh:x*y / 18446744073709551616<9223372036854775808):zod (A*C) (x*y / 18446744073709551616*2+x*y % 18446744073709551616/9223372036854775808) (N+M+63):=by(
obtain⟨a1,a2⟩:=ztx h g
obtain⟨b1,b3⟩:=zpt h g
obtain⟨c1,c2⟩:=qbm _ _ b3
obtain⟨d1,d2⟩:=zwp _ b1 hh
have e64:2^(N+M+63)=9223372036854775808*2^(N+M):=by rw[Nat.pow_add,Nat.mul_comm]
rw[qmt]
refine⟨d1,d2,?_,?_⟩
·rw[e64,← Nat.mul_assoc];exact Nat.le_trans (Nat.mul_le_mul_right _ c1) a1
·rw[e64,← Nat.mul_assoc];exact Nat.lt_of_lt_of_le a2 (Nat.mul_le_mul_right _ c2))
theorem zpu {Z Z' p q K M:Nat} (h:zod Z p K) (g:zod Z' q M) (hk:M+1<K):Z' < Z:=by(
refine Nat.lt_of_mul_lt_mul_right (a:=85070591730234615865843651857942052864) (Nat.lt_of_lt_of_le g.lt (Nat.le_trans ?_ h.ge))
have h1:2^(M+2)≤2^K:=Nat.pow_le_pow_right (by omega) (by omega)
rw[Nat.pow_add] at h1
have h2:p*(2^M*2^2)≤p*2^K:=Nat.mul_le_mul_left _ h1
have h3:=h.lo
have h4:=g.hi
refine Nat.le_trans ?_ h2
rw[Nat.mul_comm (2^M),← Nat.mul_assoc]
exact Nat.mul_le_mul_right _ (by omega))
theorem znn {Z Z' p q K:Nat} (h:zod Z p K) (g:zod Z' q K) (hk:q+8≤p):Z' < Z:=by
 refine Nat.lt_of_mul_lt_mul_right (a:=85070591730234615865843651857942052864) (Nat.lt_of_lt_of_le g.lt (Nat.le_trans ?_ h.ge))
 exact Nat.mul_le_mul_right _ hk
def yc (X:Nat):Nat:=zw X*2^lz (zw X)+(if (wd 18446744073709551616 X).length≤1 then 0 else (wd 18446744073709551616 X)[(wd 18446744073709551616 X).length-2]?.getD 0/2^(64-lz (zw X)))
def zdk (X:Nat):Nat:=64*((wd 18446744073709551616 X).length-1)+63-lz (zw X)
theorem zlx (X:Nat) (h:0<X):zoe X (yc X) (zdk X):=by(
obtain⟨t1,t2,-,-⟩:=zgl X h
obtain⟨l1,l2,l3,-⟩:=zbg (zw X) t1 t2
have hl:0<(wd 18446744073709551616 X).length:=by rw[Nat.pos_iff_ne_zero];intro e;rw[zh (by omega)] at e;omega
unfold yc zdk
by_cases h1:(wd 18446744073709551616 X).length≤1
·(
have hX:X < 18446744073709551616:=by
 have:=ak (B:=18446744073709551616) (by omega) X 1 h1
 rw[Nat.pow_one] at this;exact this
have e:zw X=X:=by unfold zw;rw[zei X h hX];rfl
rw[if_pos h1,Nat.add_zero,show (wd 18446744073709551616 X).length-1=0 from by omega,Nat.mul_zero,Nat.zero_add]
rw[e] at l1 l2 l3 ⊢
exact qfy X _ l1 l3 l2)
·(
rw[if_neg h1]
obtain⟨m,hm⟩:∃ m,(wd 18446744073709551616 X).length=m+2:=⟨(wd 18446744073709551616 X).length-2,by omega⟩
have e2:=zan (wd 18446744073709551616 X) m (by omega) (zn (by omega) X)
have e3:=cf (zn (B:=18446744073709551616) (by omega) X) (by omega:0 < 18446744073709551616) m
have e4:=zay 18446744073709551616 (wd 18446744073709551616 X) m (by omega)
have e5:=ko 18446744073709551616 (wd 18446744073709551616 X) (m+1) (by omega)
rw[List.drop_eq_nil_of_le (by omega:(wd 18446744073709551616 X).length≤m+1+1)] at e5
rw[qg (by omega),e5] at e4
rw[show (wd 18446744073709551616 X)[m+1]?.getD 0=zw X from by unfold zw;rw[hm];rfl] at e4
rw[show (wd 18446744073709551616 X).length-2=m from by omega,show (wd 18446744073709551616 X).length-1=m+1 from by omega]
simp only[vl,Nat.mul_zero,Nat.add_zero] at e4
exact (qbo X _ _ m _ (zw X) (lz (zw X)) rfl e4 e2 e3 l1 l3 l2).1))
theorem zlc (v:Value) (X:Nat) (hX:0<X) (w:World) (hv:Sl .u64 w v (wd 18446744073709551616 X)) (hl:(wd 18446744073709551616 X).length<134217728) (x:Nat) (N:Int) (hx:Hid (x=yc X)) (hN:Hid (N=(zdk X:Int)-63)) :
  Calls prog 300 #[v] w fun e w'=>e=.returned (.tuple #[.int .u64 (x:Int),.int .i64 N])∧w'=w:=by(
obtain⟨t1,t2,-,-⟩:=zgl X hX
obtain⟨hs,l2,l3,-⟩:=zbg (zw X) t1 t2
have LZ:=af (fun W=>zfx (zw X) t1 t2 W)
rcases hv.open with ⟨e,-⟩|⟨hp,b,o,c,rfl,hc,-,hcell⟩
·rw[dm (by omega)] at e;omega
have hct:=hcell ((wd 18446744073709551616 X).length-1) (by omega)
rw[show (wd 18446744073709551616 X)[(wd 18446744073709551616 X).length-1]?.getD 0=zw X from rfl] at hct
have E0:IntKind.u64.wrap (((zw X:Nat):Int)*2^lz (zw X))=((zw X*2^lz (zw X):Nat):Int):=by
 have e:((zw X:Nat):Int)*2^lz (zw X)=((zw X*2^lz (zw X):Nat):Int):=by simp
 rw[e,IntKind.wrap_u64];omega
unfold yc at hx
unfold zdk at hN
by_cases h1:(wd 18446744073709551616 X).length≤1
·(
have hl1:(wd 18446744073709551616 X).length=1:=by omega
rw[if_pos h1,Nat.add_zero] at hx
rw[hl1] at hct hN ⊢
rw[Nat.sub_self,Nat.add_zero] at hct
have hNN:Hid (N=-((lz (zw X):Nat):Int)):=by
 show _=_;rw[ae hN];omega
clear hcell hN hv
generalize zw X*2^lz (zw X)=y at *
generalize lz (zw X)=s at *
generalize zw X=t at *
have HX:x=y:=ae hx
subst HX
have HN:N=-(s:Int):=ae hNN
subst HN
go_enter func300,ntmps300
go_wp2_with fail
refine (ae LZ _).mono ?_
rintro e w1 ⟨rfl,hw⟩
obtain rfl:=hw.symm
clear hw
go_wp2
go_ret2
exact⟨rfl,rfl⟩)
·(
rw[if_neg h1] at hx
have hc2:=hcell ((wd 18446744073709551616 X).length-2) (by omega)
have e3:=cf (zn (B:=18446744073709551616) (by omega) X) (by omega:0 < 18446744073709551616) ((wd 18446744073709551616 X).length-2)
generalize (wd 18446744073709551616 X)[(wd 18446744073709551616 X).length-2]?.getD 0=y at *
have hu:y/2^(64-lz (zw X))<2^lz (zw X):=by
 have hB:18446744073709551616=2^(64-lz (zw X))*2^lz (zw X):=by rw[← Nat.pow_add,show 64-lz (zw X)+lz (zw X)=64 from by omega]
 rw[Nat.div_lt_iff_lt_mul (Nat.pow_pos (by omega)),Nat.mul_comm,← hB];exact e3
have hub:y/2^(64-lz (zw X)) < 18446744073709551616:=Nat.lt_of_le_of_lt (Nat.div_le_self _ _) e3
have hor:zw X*2^lz (zw X) ||| y/2^(64-lz (zw X))=zw X*2^lz (zw X)+y/2^(64-lz (zw X)):=by
 rw[Nat.mul_comm,Nat.two_pow_add_eq_or_of_lt hu]
have E1:bits .or .u64 ((zw X*2^lz (zw X):Nat):Int) ((y/2^(64-lz (zw X)):Nat):Int)=((zw X*2^lz (zw X)+y/2^(64-lz (zw X)):Nat):Int):=by
 rw[bits_or_u64_nat _ _ l2 hub,hor]
have E2:((y:Nat):Int)/2^(64-lz (zw X))=((y/2^(64-lz (zw X)):Nat):Int):=by simp
have E3:(64-((lz (zw X):Nat):Int)).toNat=64-lz (zw X):=by omega
clear hcell hv hor hu
generalize zw X*2^lz (zw X)+y/2^(64-lz (zw X))=z at *
generalize y/2^(64-lz (zw X))=q at *
generalize zw X*2^lz (zw X)=p at *
generalize lz (zw X)=s at *
generalize zw X=t at *
generalize (wd 18446744073709551616 X).length=n at *
have HX:x=z:=ae hx
subst HX
have HN:N=((n:Int)-1)*64-s:=by rw[ae hN];omega
subst HN
obtain⟨m,rfl⟩:∃ m,n=m+2:=⟨n-2,by omega⟩
rw[show m+2-1=m+1 from rfl] at hct
rw[show m+2-2=m from rfl] at hc2
have hm0:(0:Int)≤(m:Int):=by omega
clear hx hN
go_enter func300,ntmps300
go_wp2_with fail
refine (ae LZ _).mono ?_
rintro e w1 ⟨rfl,hw⟩
obtain rfl:=hw.symm
clear hw
go_wp2
go_ret2
refine⟨?_,rfl⟩
go_num))
def zdh (A C:Nat):Nat:=if yc A*yc C / 18446744073709551616<9223372036854775808 then yc A*yc C / 18446744073709551616*2+yc A*yc C % 18446744073709551616/9223372036854775808 else yc A*yc C / 18446744073709551616
def zbp (A C:Nat):Nat:=if yc A*yc C / 18446744073709551616<9223372036854775808 then zdk A+zdk C+63 else zdk A+zdk C+64
theorem zym (A C:Nat) (hA:0<A) (hC:0<C):zod (A*C) (zdh A C) (zbp A C):=by(
have h:=zlx A hA
have g:=zlx C hC
unfold zdh zbp
split
·exact qbp h g (by assumption)
·exact zwu h g (by omega))
theorem zir (X:Nat) (n:Nat) (h:(wd 18446744073709551616 X).length<n):zdk X≤64*n:=by unfold zdk;omega
theorem zth (A C n:Nat) (hA:(wd 18446744073709551616 A).length<n) (hC:(wd 18446744073709551616 C).length<n):zbp A C≤128*n+64:=by(
have h1:=zir A n hA
have h2:=zir C n hC
unfold zbp
split <;> omega)
theorem zcp (va vc:Value) (A C:Nat) (hA:0<A) (hC:0<C) (w:World) (ha:Sl .u64 w va (wd 18446744073709551616 A)) (hc:Sl .u64 w vc (wd 18446744073709551616 C)) (hla:(wd 18446744073709551616 A).length<134217728) (hlc:(wd 18446744073709551616 C).length<134217728) (p:Nat) (K:Int) (hp:Hid (p=zdh A C)) (hK:Hid (K=(zbp A C:Int)-126)) :
  Calls prog 265 #[va,vc] w fun e w'=>e=.returned (.tuple #[.int .u64 (p:Int),.int .i64 K])∧w'=w:=by(
have LA:=af (zlc va A hA w ha hla (yc A) ((zdk A:Int)-63) rfl rfl)
have LC:=af (zlc vc C hC w hc hlc (yc C) ((zdk C:Int)-63) rfl rfl)
have ba:=(zlx A hA).hi
have bc:=(zlx C hC).hi
have na:=zir A _ hla
have nc:=zir C _ hlc
have MU:=af (fun W=>Tryz.bits_Mul64 (yc A) (yc C) ba bc W)
have hzB:yc A*yc C / 18446744073709551616 < 18446744073709551616:=by rw[Nat.div_lt_iff_lt_mul (by omega)];exact Nat.mul_lt_mul'' ba bc
have hzL:yc A*yc C % 18446744073709551616 < 18446744073709551616:=Nat.mod_lt _ (by omega)
unfold zdh at hp
unfold zbp at hK
obtain⟨aa,ca,rfl,-,-⟩:=ha
obtain⟨ac,cc,rfl,-,-⟩:=hc
generalize (wd 18446744073709551616 A).length=la at *
generalize (wd 18446744073709551616 C).length=lc at *
generalize yc A*yc C / 18446744073709551616=hi at *
generalize yc A*yc C % 18446744073709551616=lo at *
generalize yc A=x at *
generalize yc C=y at *
generalize zdk A=n at *
generalize zdk C=m at *
by_cases hh:hi<9223372036854775808
·(
rw[if_pos hh] at hp hK
have d1:((hi:Int)/9223372036854775808==0)=true:=beq_iff_eq.2 (by omega)
have hor:bits .or .u64 ((hi*2:Nat):Int) ((lo/9223372036854775808:Nat):Int)=((hi*2+lo/9223372036854775808:Nat):Int):=by
 rw[bits_or_u64_nat _ _ (by omega) (by omega)]
 have:=Nat.two_pow_add_eq_or_of_lt (i:=1) (b:=lo/9223372036854775808) (by omega) hi
 rw[Nat.pow_one,Nat.mul_comm] at this
 rw[this]
have e1:IntKind.u64.wrap ((hi:Int)*2)=((hi*2:Nat):Int):=by rw[IntKind.wrap_u64];omega
have e2:(lo:Int)/9223372036854775808=((lo/9223372036854775808:Nat):Int):=by simp
generalize hi*2+lo/9223372036854775808=z at *
generalize lo/9223372036854775808=z2 at *
generalize hi*2=z1 at *
have HP:p=z:=ae hp
subst HP
have HK:K=(n:Int)+m-63:=by rw[ae hK];omega
subst HK
clear hp hK
go_enter func265,ntmps265
go_wp2_with fail
refine (ae LA).mono ?_
rintro e w1 ⟨rfl,hw⟩
obtain rfl:=hw.symm
clear hw
go_wp2_with fail
refine (ae LC).mono ?_
rintro e w1 ⟨rfl,hw⟩
obtain rfl:=hw.symm
clear hw
go_wp2_with fail
refine (ae MU _).mono ?_
rintro e w1 ⟨rfl,hw⟩
obtain rfl:=hw.symm
clear hw
go_wp2
go_ret2
refine⟨?_,rfl⟩
go_num)
·(
rw[if_neg hh] at hp hK
have d1:((hi:Int)/9223372036854775808==0)=false:=beq_eq_false_iff_ne.2 (by omega)
have HP:p=hi:=ae hp
subst HP
have HK:K=(n:Int)+m-62:=by rw[ae hK];omega
subst HK
clear hp hK
go_enter func265,ntmps265
go_wp2_with fail
refine (ae LA).mono ?_
rintro e w1 ⟨rfl,hw⟩
obtain rfl:=hw.symm
clear hw
go_wp2_with fail
refine (ae LC).mono ?_
rintro e w1 ⟨rfl,hw⟩
obtain rfl:=hw.symm
clear hw
go_wp2_with fail
refine (ae MU _).mono ?_
rintro e w1 ⟨rfl,hw⟩
obtain rfl:=hw.symm
clear hw
go_wp2
go_ret2
refine⟨?_,rfl⟩
go_num))
theorem qcp (m:Nat) (h:m<18446744073709551616):(m=0∧wd 4294967296 m=[])∨(0<m∧m<4294967296∧wd 4294967296 m=[m])∨(4294967296≤m∧wd 4294967296 m=[m%4294967296,m/4294967296]):=by(
rcases Nat.eq_zero_or_pos m with rfl | h0
·exact .inl ⟨rfl,zi _⟩
·(
rcases Nat.lt_or_ge m 4294967296 with h1 | h1
·refine .inr (.inl ⟨h0,h1,?_⟩)
 rw[zcg (by omega) h0,Nat.mod_eq_of_lt h1,Nat.div_eq_of_lt h1,zi]
·refine .inr (.inr ⟨h1,?_⟩)
 rw[zcg (by omega) h0,zcg (by omega) (by omega:0<m/4294967296),Nat.mod_eq_of_lt (by omega:m/4294967296<4294967296),Nat.div_eq_of_lt (by omega:m/4294967296<4294967296),zi]))
theorem qjr (a b:Nat) (ha:a<4294967296) (hb:b<4294967296):bits .or .u64 (a:Int) ((b:Int)*4294967296)=((a+b*4294967296:Nat):Int):=by(
have e:(b:Int)*4294967296=((b*4294967296:Nat):Int):=by omega
rw[e,bits_or_u64_nat a _ (by omega) (by omega),Nat.or_comm]
have h:=Nat.two_pow_add_eq_or_of_lt (i:=32) (b:=a) (by omega) b
rw[show (2:Nat)^32=4294967296 from rfl,Nat.mul_comm] at h
rw[← h,Nat.add_comm])
theorem or_hi (a b:Nat) (ha:a<4294967296) (hb:b<4294967296):bits .or .u64 ((b:Int)*4294967296) (a:Int)=((a+b*4294967296:Nat):Int):=by(
have e:(b:Int)*4294967296=((b*4294967296:Nat):Int):=by omega
rw[e,bits_or_u64_nat _ a (by omega) (by omega)]
have h:=Nat.two_pow_add_eq_or_of_lt (i:=32) (b:=a) (by omega) b
rw[show (2:Nat)^32=4294967296 from rfl,Nat.mul_comm] at h
rw[← h,Nat.add_comm])
theorem zce (v:Value) (m:Nat) (w:World) (hv:Sl .u32 w v (wd 4294967296 m)) (hm:m<18446744073709551616) :
  Calls prog 279 #[v] w fun e w'=>e=.returned (.int .u64 m)∧w'=w:=by(
rcases qcp m hm with ⟨rfl,e⟩|⟨h0,h1,e⟩|⟨h1,e⟩
·(
rw[e] at hv
obtain⟨a,cap,rfl,-,-⟩:=hv
go_enter func279,ntmps279
go_wp2
go_ret
exact⟨rfl,rfl⟩)
·(
rw[e] at hv
rcases hv.open with ⟨h,-⟩|⟨-,b,off,cap,rfl,hc,hb,hcell⟩
·simp at h
·(
have c0:=hcell 0 (by simp)
simp at c0
clear hcell e hv
go_enter func279,ntmps279
go_wp2
go_ret
exact⟨rfl,rfl⟩))
·(
rw[e] at hv
rcases hv.open with ⟨h,-⟩|⟨-,b,off,cap,rfl,hc,hb,hcell⟩
·simp at h
·(
have c0:=hcell 0 (by simp)
have c1:=hcell 1 (by simp)
simp at c0 c1
clear hcell e hv
go_enter func279,ntmps279
go_wp2
go_ret
have e1:(m:Int)%4294967296=((m%4294967296:Nat):Int):=by omega
have e2:(m:Int)/4294967296=((m/4294967296:Nat):Int):=by omega
refine⟨?_,rfl⟩
show Ending.returned (.int .u64 (bits .or .u64 ((m:Int)%4294967296) ((m:Int)/4294967296*4294967296)))=_
rw[e1,e2,qjr _ _ (by omega) (by omega),show m%4294967296+m/4294967296*4294967296=m from by omega])))
theorem qfq (q:Nat) (h:q<4294967296):(q:Int)%4294967296=(q:Int):=by omega
structure zex (xs qs:List Nat) (d k r:Nat):Prop where
 len:qs.length=xs.length
 mem:∀ x ∈ qs,x<4294967296
 quo:vl 4294967296 (qs.drop k)=vl 4294967296 (xs.drop k)/d
 rem:r=vl 4294967296 (xs.drop k)%d
theorem zex.start (xs:List Nat) (d:Nat):zex xs (List.replicate xs.length 0) d xs.length 0 :=
 ⟨by simp,by intro x hx;rw[List.mem_replicate] at hx;omega,by simp[vl],by simp[vl]⟩
theorem zex.step {xs qs:List Nat} {d k r:Nat} (h:zex xs qs d (k+1) r) (hd:0<d) (hd2:d<4294967296) (hk:k<xs.length) (hx:xs[k]?.getD 0<4294967296) (t:Nat) (ht:t=xs[k]?.getD 0+r*4294967296) :
  r<4294967296∧t<18446744073709551616∧t/d<4294967296∧t%d<4294967296∧zex xs (qs.set k (t/d)) d k (t%d):=by(
have hr:r<d:=by rw[h.rem];exact Nat.mod_lt _ hd
have ht2:t/d<4294967296:=by
 rw[Nat.div_lt_iff_lt_mul hd]
 have:(r+1)*4294967296≤d*4294967296:=Nat.mul_le_mul_right _ hr
 rw[Nat.mul_comm 4294967296 d]
 omega
have htm:=Nat.mod_lt t hd
have hkq:k<qs.length:=by rw[h.len];exact hk
have e:vl 4294967296 (xs.drop k)=t+4294967296*(vl 4294967296 (xs.drop (k+1))/d)*d:=by
 have h1:=ko 4294967296 xs k hk
 have h2:=Nat.mod_add_div (vl 4294967296 (xs.drop (k+1))) d
 rw[← h.rem] at h2
 have h3:4294967296*vl 4294967296 (xs.drop (k+1))=4294967296*r+4294967296*(vl 4294967296 (xs.drop (k+1))/d)*d:=by
  rw[Nat.mul_assoc,Nat.mul_comm (_/d) d,← Nat.mul_add,h2]
 omega
refine⟨by omega,by omega,ht2,by omega,by rw[List.length_set];exact h.len,mem_set h.mem _ _ ht2,?_,?_⟩
·rw[e,Nat.add_mul_div_right _ _ hd,ko 4294967296 _ k (by rw[List.length_set];exact hkq),List.getElem?_set_self hkq,List.drop_set_of_lt (by omega),h.quo]
 rfl
·rw[e,Nat.add_mul_mod_self_right])
theorem zmn (v:Value) (m d:Nat) (w:World) (hv:Sl .u32 w v (wd 4294967296 m)) (hd:0<d) (hd2:d<4294967296) (hl:(wd 4294967296 m).length<1073741824) :
  Calls prog 278 #[v,.int .u32 d] w fun e w'=>∃ v',e=.returned (.tuple #[v',.int .u32 (m%d:Nat)])∧Sl .u32 w' v' (wd 4294967296 (m/d))∧But [] w w'∧ui w.heap.size v':=by(
have mm:=zn (B:=4294967296) (by omega) m
have em:=qg (B:=4294967296) (by omega) m
generalize wd 4294967296 m=xs at *
subst em
have hdb:((d:Int)==0)=false:=by simp;omega
obtain⟨ti,hi,hz,hs,hbt⟩:=zeb
have hmk:=fun wx=>run_make (P:=prog) wx 137 299 ti (.int .u32 0) underlying137 hi hz .i64 .i64 (xs.length:Int) (xs.length:Int) (by omega) (by omega) (by rw[hbt];omega) (by omega)
rw[hs] at hmk
simp only[Int.toNat_natCast,Nat.mul_one] at hmk
clear hi hz hs hbt ti
have MM:=af mm
clear mm
rcases hv.open with ⟨rfl,a,cap,rfl⟩|⟨h0,b,off,cap,rfl,hc,hbl,hcell⟩
·(
simp only[List.length_nil,Int.natCast_zero] at hmk
clear MM hl
go_enter func278,ntmps278
go_wp2
refine wp_loop_rounds 1 ?_
rw[rounds_succ]
go_wp2_with fail
have hS:Sl .u32 (w.alloc (.cells (madeCells #[.int .u32 0] 0) 299)) (.slice (some ⟨w.heap.size,0,none⟩) 0 0) []:=Sl.mk (xs:=[]) w.heap.size 0 0 (Nat.le_refl _) (fun i hi=>by simp at hi) (fun h=>by simp at h)
refine (rz _ [] _ hS (by simp) (by simp)).mono ?_
rintro e w' ⟨v',rfl,hs,rfl,hfr⟩
have HF:ui w.heap.size v':=eu hfr (Nat.le_refl _)
clear hfr
go_wp2
go_ret2
simp only[vl,Nat.zero_div,Nat.zero_mod] at hs ⊢
exact⟨v',rfl,hs,(But.refl _ _).alloc _,HF⟩)
·(
have HC:=af hcell
clear hcell hv
go_enter func278,ntmps278
go_wp2
go_loopw [7,8] (fun r i wr=>∃ (k rN:Nat) (qs:List Nat),k≤xs.length∧i=.int .i64 ((k:Int)-1)∧r=.int .u64 rN∧rN<d∧Hid (zex xs qs d k rN∧But [] w wr∧xu .u32 wr w.heap.size qs)) (fun _ i _=>(intOf i+1).toNat)
case atStart=>exact⟨xs.length,0,List.replicate xs.length 0,Nat.le_refl _,rfl,rfl,hd,zex.start xs d,(But.refl _ _).alloc _,xu.made _ _ _ _⟩
case round =>(
obtain⟨k,rN,qs,hk,rfl,rfl,hrN,HI⟩:=hrel
rename World=>wr
by_cases hk0:k=0
·(
subst hk0
go_wp2_with fail
have hI:=ae HI
have hS:=hI.2.2.sl xs.length (by rw[hI.1.len];exact Nat.le_refl _)
rw[hI.1.len] at hS
refine (rz _ qs _ hS hI.1.mem (by rw[hI.1.len];omega)).mono ?_
rintro e w' ⟨v',rfl,hs,rfl,hfr⟩
have HF:ui w.heap.size v':=eu hfr (Nat.le_refl _)
clear hfr
go_wp2
go_ret2
have hq:=hI.1.quo
have hr:=hI.1.rem
simp only[List.drop_zero] at hq hr
rw[hq] at hs
exact⟨v',by rw[← hr];rfl,hs,hI.2.1,HF⟩)
·(
obtain⟨i,rfl⟩:∃ i,k=i+1:=⟨k-1,by omega⟩
rw[show (((i+1:Nat):Int)-1)=(i:Int) from by omega]
have hil:i<qs.length:=by rw[(ae HI).1.len];omega
have cx:=(ae HI).2.1.ag (ae HC i (by omega)) (by simp)
have hxB:xs[i]?.getD 0<4294967296:=cf (ae MM) (by omega) i
obtain⟨cr,fr⟩:=(ae HI).2.2.row i hil
have ST:=af ((ae HI).1.step hd hd2 (by omega) hxB _ rfl)
have OR:=or_hi (xs[i]?.getD 0) rN hxB (by omega)
generalize xs[i]?.getD 0=x at *
generalize qs[i]?.getD 0=r0 at *
go_wp2
have hS:=ae ST
have hR:=(ae HI).2.2
have e1:((x:Int)+(rN:Int)*4294967296)=((x+rN*4294967296:Nat):Int):=by omega
rw[e1]
generalize x+rN*4294967296=t at *
have e2:(t:Int)/(d:Int)%4294967296=((t/d:Nat):Int):=by rw[← Int.natCast_ediv];exact qfq _ hS.2.2.1
have e3:(t:Int)%(d:Int)=((t%d:Nat):Int):=by rw[Int.natCast_emod]
rw[e2,e3]
refine⟨⟨i,t%d,qs.set i (t/d),by omega,rfl,rfl,Nat.mod_lt _ hd,hS.2.2.2.2,(ae HI).2.1.setCell (by simp) _,hR.set _ hil _⟩,?_⟩
simp[intOf]))))
theorem qac (v:Value) (m d:Nat) (w:World) (hv:Sl .u32 w v (wd 4294967296 m)) (hd:0<d) (hd2:d<4294967296) (hl:(wd 4294967296 m).length<1073741824) :
  Calls prog 278 #[v,.int .u32 d] w fun e w'=>∃ v',e=.returned (.tuple #[v',.int .u32 (m%d:Nat)])∧Sl .u32 w' v' (wd 4294967296 (m/d))∧But [] w w' :=
 (zmn v m d w hv hd hd2 hl).mono fun _ _ ⟨v',h1,h2,h3,_⟩=>⟨v',h1,h2,h3⟩
def qy (f:Rat):Nat→Rat
 | 0=>1
 | n+1=>qy f n*f
theorem zcj (f:Rat):∀ n,(qy f n).num=f.num^n∧(qy f n).den=f.den^n
 | 0=>⟨by rw[Int.pow_zero];rfl,by rw[Nat.pow_zero];rfl⟩
 | n+1=>by
  obtain⟨h1,h2⟩:=zcj f n
  have hd:0<f.den:=Nat.pos_of_ne_zero f.den_nz
  have hco:Nat.Coprime f.num.natAbs f.den:=f.reduced
  have hc:=zcf (qy f n) f
  rw[h1,h2] at hc
  have hq:((qy f n*f).num*((f.den^(n+1):Nat):Int)=f.num^(n+1)*((qy f n*f).den:Int)):=by
   rw[Nat.pow_succ,Int.pow_succ]
   exact hc
  exact mg (f.num^(n+1)) (f.den^(n+1)) (Nat.pos_iff_ne_zero.1 (Nat.pow_pos hd)) (by rw[Int.natAbs_pow];exact Nat.Coprime.pow _ _ hco) _ hq
end Go.Proofs.YtpmjeclpkahkmaaGreatDoor
