/- Contracts of math/bits at this program,  -/
import Derived.Shelf.Bits.Mul64
import Derived.Shelf.Small.Bits
import Derived.Test.YtcgecpoedojhjaaGreatDoorProg
import Derived.Laws.Bits64b
import Derived.Shelf.Strings.Prefix
import Derived.Test.YtcgecpoedojhjaaGreatDoorKPBase
namespace Go.Proofs
open Go.Proofs.Tryz
open Go.Shelf
def Tryz.lays264_ren : Go.Shelf.Ren := ⟨fun | 264 => 75 | n => n, fun | 46 => 190 | 53 => 32 | n => n, fun | n => n⟩
theorem Tryz.lays264 : Go.Proofs.Lays.n264 Tryz.prog Tryz.lays264_ren := {
  mixed := by kernel_rfl
  f264 := Tryz.func75.trans (congrArg some (by kernel_rfl))
  t46 := Tryz.underlying190
  a46 := Tryz.isAgg190
  z46 := Tryz.sizeOf190
  v46 := Tryz.zeroValue190
  t53 := Tryz.underlying32
  a53 := Tryz.isAgg32
  z53 := Tryz.sizeOf32
  v53 := Tryz.zeroValue32 }
def Tryz.lays134_ren : Go.Shelf.Ren := ⟨fun | 129 => 173 | 134 => 145 | n => n, fun | 3 => 3 | 4 => 4 | 5 => 5 | 9 => 9 | 46 => 190 | 53 => 32 | n => n, fun | n => n⟩
theorem Tryz.lays134 : Go.Proofs.Lays.n134 Tryz.prog Tryz.lays134_ren := {
  mixed := by kernel_rfl
  f129 := Tryz.func173.trans (congrArg some (by kernel_rfl))
  f134 := Tryz.func145.trans (congrArg some (by kernel_rfl))
  t3 := Tryz.underlying3
  a3 := Tryz.isAgg3
  z3 := Tryz.sizeOf3
  v3 := Tryz.zeroValue3
  t4 := Tryz.underlying4
  a4 := Tryz.isAgg4
  z4 := Tryz.sizeOf4
  v4 := Tryz.zeroValue4
  t5 := Tryz.underlying5
  a5 := Tryz.isAgg5
  z5 := Tryz.sizeOf5
  v5 := Tryz.zeroValue5
  t9 := Tryz.underlying9
  a9 := Tryz.isAgg9
  z9 := Tryz.sizeOf9
  v9 := Tryz.zeroValue9
  t46 := Tryz.underlying190
  a46 := Tryz.isAgg190
  z46 := Tryz.sizeOf190
  v46 := Tryz.zeroValue190
  t53 := Tryz.underlying32
  a53 := Tryz.isAgg32
  z53 := Tryz.sizeOf32
  v53 := Tryz.zeroValue32 }
theorem Tryz.bits_Mul64 (x y:Nat) (hx:x < 18446744073709551616) (hy:y < 18446744073709551616) (w:World) :
  Calls prog 75 #[.int .u64 x,.int .u64 y] w fun e w'=>e=.returned (.tuple #[.int .u64 ((x*y / 18446744073709551616:Nat):Int),.int .u64 ((x*y % 18446744073709551616:Nat):Int)])∧w'=w:=Any.bits_Mul64 Tryz.lays264 x y hx hy w
theorem Tryz.bits_LeadingZeros64 (x:Int) (w:World) (h0:0≤x) (h1:x≤18446744073709551615) :
  Calls prog 145 #[.int .u64 x] w fun e w'=>e=.returned (.int .i64 (64-(Lib.bitLen x.toNat:Int)))∧w'=w:=Any.bits_LeadingZeros64 Tryz.lays134 x w h0 h1
end Go.Proofs
namespace Go.Proofs.YtcgecpoedojhjaaGreatDoor
open Go.Proofs.Tryz
theorem zxu (u Y n1 n0 u1 q r:Nat) (hY:Y=n1*4294967296+n0) (e:u=q*n1+r) (hr:r<n1) (hu1:u1<4294967296):(u*4294967296+u1)/Y≤q:=by
 have h0:0<Y:=by omega
 have:u*4294967296+u1<(q+1)*(n1*4294967296):=by
  have h1:u+1≤(q+1)*n1:=by rw[e,Nat.add_mul];omega
  have h2:=Nat.mul_le_mul_right 4294967296 h1
  grind
 apply Nat.le_of_lt_succ
 rw[Nat.div_lt_iff_lt_mul h0]
 subst hY
 grind
theorem qge (u Y n1 n0 u1 q r:Nat) (hY:Y=n1*4294967296+n0) (e:u=q*n1+r) (hu:u<Y) (hu1:u1<4294967296) (hc:4294967296≤q∨4294967296*r+u1<q*n0):(u*4294967296+u1)/Y<q:=by
 have h0:0<Y:=by omega
 rw[Nat.div_lt_iff_lt_mul h0]
 rcases hc with hc | hc
 ·have h1:4294967296*Y≤q*Y:=Nat.mul_le_mul_right _ hc
  omega
 ·subst hY e
  grind
theorem qgd (u Y n1 n0 u1 q r:Nat) (hY:Y=n1*4294967296+n0) (e:u=q*n1+r) (hu:u<Y) (hQ:(u*4294967296+u1)/Y≤q) (hc:q*n0≤4294967296*r+u1):q=(u*4294967296+u1)/Y:=by
 have h0:0<Y:=by omega
 refine Nat.le_antisymm ?_ hQ
 rw[Nat.le_div_iff_mul_le h0]
 subst hY e
 grind
theorem qgf (u Y n1 n0 u1 q r:Nat) (hY:Y=n1*4294967296+n0) (hn0:n0<4294967296) (e:u=q*n1+r) (hu:u<Y) (hr:4294967296≤r):q<4294967296∧q*n0≤4294967296*r+u1:=by
 have hq:q<4294967296:=by
  rcases Nat.lt_or_ge q 4294967296 with h | h
  ·exact h
  ·have:=Nat.mul_le_mul_right n1 h
   omega
 refine⟨hq,?_⟩
 have h1:q*n0≤4294967296*4294967296:=Nat.mul_le_mul (by omega) (by omega)
 omega
theorem zxt (u Y u1:Nat) (hu:u<Y) (hu1:u1<4294967296):(u*4294967296+u1)/Y<4294967296:=by
 rw[Nat.div_lt_iff_lt_mul (by omega)]
 omega
theorem qtg (N y P Y u L u1 u0 q1 r1 q0 r0:Nat) (hP:0<P) (hY:Y=y*P) (hN:N*P=u*18446744073709551616+L) (hL:L=u1*4294967296+u0) (e1:u*4294967296+u1=q1*Y+r1) (e0:r1*4294967296+u0=q0*Y+r0) (h0:r0<Y):q1*4294967296+q0=N/y∧r0/P=N%y:=by
 have h:N*P=(q1*4294967296+q0)*(y*P)+r0:=by
  subst hL hY
  have:(u*4294967296+u1)*4294967296=(q1*(y*P)+r1)*4294967296:=by rw[e1]
  grind
 subst hY
 have hd:r0=(N-(q1*4294967296+q0)*y)*P:=by
  rw[Nat.sub_mul,h,Nat.mul_assoc];omega
 have hle:(q1*4294967296+q0)*y≤N:=by
  have:(q1*4294967296+q0)*y*P≤N*P:=by rw[h,Nat.mul_assoc];omega
  exact Nat.le_of_mul_le_mul_right this hP
 have hlt:N-(q1*4294967296+q0)*y<y:=by
  rw[hd] at h0
  exact Nat.lt_of_mul_lt_mul_right h0
 have hN2:N=(q1*4294967296+q0)*y+(N-(q1*4294967296+q0)*y):=by omega
 constructor
 ·refine (Nat.div_eq_of_lt_le ?_ ?_).symm
  ·exact hle
  ·rw[Nat.add_mul];omega
 ·rw[hd,Nat.mul_div_cancel _ hP]
  have:=Nat.mod_eq_of_lt hlt
  conv=>rhs;rw[hN2]
  rw[Nat.mul_comm _ y,Nat.mul_add_mod,Nat.mul_comm y,this]
theorem zrz (hi lo s:Nat) (hs:s≤63) (hlo:lo<18446744073709551616):(hi*2^s) ||| (lo/2^(64-s))=hi*2^s+lo/2^(64-s)∧lo/2^(64-s)<2^s:=by
 have hp:18446744073709551616=2^s*2^(64-s):=by rw[← Nat.pow_add,show s+(64-s)=64 from by omega]
 have hb:lo/2^(64-s)<2^s:=by
  rw[Nat.div_lt_iff_lt_mul (Nat.pow_pos (by omega)),← hp];exact hlo
 refine⟨?_,hb⟩
 rw[Nat.mul_comm hi,Nat.two_pow_add_eq_or_of_lt hb]
theorem qoz (hi lo s:Nat) (hs:s≤63):(hi*18446744073709551616+lo)*2^s=(hi*2^s+lo/2^(64-s))*18446744073709551616+lo*2^s%18446744073709551616:=by
 have hp:18446744073709551616=2^(64-s)*2^s:=by rw[← Nat.pow_add,show (64-s)+s=64 from by omega]
 have e:lo*2^s/18446744073709551616=lo/2^(64-s):=by
  rw[hp,Nat.mul_div_mul_right _ _ (Nat.pow_pos (by omega))]
 have:=Nat.div_add_mod (lo*2^s) 18446744073709551616
 rw[e] at this
 grind
theorem qiu (x2 x1 x0 f s P Rl Yl R Y q r:Nat) (hR:R=Rl+P*(x0 + 18446744073709551616*(x1 + 18446744073709551616*x2))) (hY:Y=Yl+P*(s + 18446744073709551616*f)) (hl:Rl<P) (hx0:x0 < 18446744073709551616) (e:x2 * 18446744073709551616+x1=q*f+r) (hr:r<f):R<(q+1)*Y:=by
 have h1:x2 * 18446744073709551616+x1+1≤(q+1)*f:=by rw[e,Nat.add_mul];omega
 have h2:(x2 * 18446744073709551616+x1+1)*(18446744073709551616*P)≤(q+1)*f*(18446744073709551616*P):=Nat.mul_le_mul_right _ h1
 have h3:R<(x2 * 18446744073709551616+x1+1)*(18446744073709551616*P):=by
  have h4:(x0+1)*P≤18446744073709551616*P:=Nat.mul_le_mul_right _ hx0
  subst hR
  grind
 have h5:(q+1)*f*(18446744073709551616*P)≤(q+1)*Y:=by
  subst hY
  grind
 omega
theorem qte (x2 x1 x0 f s P Rl Yl R Y q r:Nat) (hR:R=Rl+P*(x0 + 18446744073709551616*(x1 + 18446744073709551616*x2))) (hY:Y=Yl+P*(s + 18446744073709551616*f)) (hl:Rl<P) (e:x2 * 18446744073709551616+x1=q*f+r) (hc:r * 18446744073709551616+x0<q*s):R<q*Y:=by
 have h1:x2 * 18446744073709551616 * 18446744073709551616+x1 * 18446744073709551616+x0+1≤q*(s + 18446744073709551616*f):=by
  have:(x2 * 18446744073709551616+x1) * 18446744073709551616=(q*f+r) * 18446744073709551616:=by rw[e]
  grind
 have h2:(x2 * 18446744073709551616 * 18446744073709551616+x1 * 18446744073709551616+x0+1)*P≤q*(s + 18446744073709551616*f)*P:=Nat.mul_le_mul_right _ h1
 subst hR hY
 grind
theorem dz (n:Int) (d:Nat) (hd:d≠0) (hc:n.natAbs.Coprime d) (q:Rat) (h:q.num*d=n*q.den):q.num=n∧q.den=d:=by
 have e:q=⟨n,d,hd,hc⟩:=by
  rw[Rat.mk_eq_mkRat,← Rat.mkRat_self q,Rat.mkRat_eq_iff q.den_nz hd]
  exact h
 rw[e]
 exact⟨rfl,rfl⟩
def sgn (s:Bool) (m:Nat):Int:=if s then -(m:Int) else (m:Int)
theorem jg (s:Bool) (m:Nat):(sgn s m).natAbs=m:=by cases s <;> simp[sgn]
theorem rf (s:Bool) (m k:Nat):sgn s (m*k)=sgn s m*k:=by cases s <;> simp[sgn,Int.neg_mul]
theorem qav (f g:Rat):(f+g).num*(f.den*g.den:Nat)=(f.num*g.den+g.num*f.den)*(f+g).den:=by
 have h:=Rat.add_def' f g
 rw[← Rat.mkRat_self (f+g),Rat.mkRat_eq_iff (f+g).den_nz (Nat.mul_ne_zero f.den_nz g.den_nz)] at h
 exact h
theorem zho (f g:Rat):(f*g).num*(f.den*g.den:Nat)=(f.num*g.num)*(f*g).den:=by
 have h:=Rat.mul_def' f g
 rw[← Rat.mkRat_self (f*g),Rat.mkRat_eq_iff (f*g).den_nz (Nat.mul_ne_zero f.den_nz g.den_nz)] at h
 exact h
theorem zxw (a c:Int) (b b' d':Nat) (hab:a.natAbs.Coprime b) (hb:b' ∣ b) (hbd:b'.Coprime d'):(a*d' + c*b').natAbs.Coprime b':=by
 rw[Nat.Coprime]
 have hp1:Nat.gcd (a*d' + c*b').natAbs b' ∣ b':=Nat.gcd_dvd_right _ _
 have hp2:Nat.gcd (a*d' + c*b').natAbs b' ∣ (a*d' + c*b').natAbs:=Nat.gcd_dvd_left _ _
 generalize Nat.gcd (a*d' + c*b').natAbs b'=p at *
 have h1:(p:Int) ∣ a*d' + c*b':=Int.ofNat_dvd_left.2 hp2
 have h2:(p:Int) ∣ c*b':=Int.dvd_mul_of_dvd_right (Int.natCast_dvd_natCast.2 hp1)
 have h3:(p:Int) ∣ a*d':=(Int.dvd_add_left h2).1 h1
 have h4:p ∣ a.natAbs*d':=by
  have:=Int.ofNat_dvd_left.1 h3
  rwa [Int.natAbs_mul,Int.natAbs_natCast] at this
 have h5:p.Coprime a.natAbs:=Nat.Coprime.coprime_dvd_left (Nat.dvd_trans hp1 hb) hab.symm
 have h6:p ∣ d':=h5.dvd_of_dvd_mul_left h4
 have h7:p ∣ Nat.gcd b' d':=Nat.dvd_gcd hp1 h6
 rw[hbd] at h7
 exact Nat.dvd_one.1 h7
theorem zri (f g:Rat) (s:Bool) (M k m:Nat) (hk:k=Nat.gcd f.den g.den) (hm:m=Nat.gcd M k) (hN:f.num*(g.den/k:Nat)+g.num*(f.den/k:Nat)=sgn s M):(f+g).num=sgn s (M/m)∧(f+g).den=(f.den/k)*(g.den/m):=by
 have hb0:0<f.den:=Nat.pos_of_ne_zero f.den_nz
 have hd0:0<g.den:=Nat.pos_of_ne_zero g.den_nz
 have hk0:0<k:=by rw[hk];exact Nat.gcd_pos_of_pos_left _ hb0
 have kb:k ∣ f.den:=by rw[hk];exact Nat.gcd_dvd_left _ _
 have kd:k ∣ g.den:=by rw[hk];exact Nat.gcd_dvd_right _ _
 have hcop:(f.den/k).Coprime (g.den/k):=by rw[hk];exact Nat.coprime_div_gcd_div_gcd (by rw[← hk];exact hk0)
 have hm0:0<m:=by rw[hm];exact Nat.gcd_pos_of_pos_right _ hk0
 have mk:m ∣ k:=by rw[hm];exact Nat.gcd_dvd_right _ _
 have mM:m ∣ M:=by rw[hm];exact Nat.gcd_dvd_left _ _
 have c1:M.Coprime (f.den/k):=by
  have:=zxw f.num g.num f.den (f.den/k) (g.den/k) f.reduced (Nat.div_dvd_of_dvd kb) hcop
  rwa [hN,jg] at this
 have c2:M.Coprime (g.den/k):=by
  have:=zxw g.num f.num g.den (g.den/k) (f.den/k) g.reduced (Nat.div_dvd_of_dvd kd) hcop.symm
  rw[Int.add_comm] at this
  rwa [hN,jg] at this
 have c3:(M/m).Coprime (k/m):=by rw[hm];exact Nat.coprime_div_gcd_div_gcd (by rw[← hm];exact hm0)
 obtain⟨b',hb'⟩:=kb
 obtain⟨d',hd'⟩:=kd
 obtain⟨k',hk'⟩:=mk
 obtain⟨M',hM'⟩:=mM
 have e1:f.den/k=b':=by rw[hb',Nat.mul_div_cancel_left _ hk0]
 have e2:g.den/k=d':=by rw[hd',Nat.mul_div_cancel_left _ hk0]
 have e3:k/m=k':=by rw[hk',Nat.mul_div_cancel_left _ hm0]
 have e4:M/m=M':=by rw[hM',Nat.mul_div_cancel_left _ hm0]
 have e5:g.den/m=k' * d':=by rw[hd',hk',Nat.mul_assoc,Nat.mul_div_cancel_left _ hm0]
 rw[e1,e2] at hN
 rw[e1] at c1
 rw[e2] at c2
 rw[e3,e4] at c3
 rw[e1,e4,e5]
 have c1':M'.Coprime b':=Nat.Coprime.coprime_dvd_left ⟨m,by rw[hM',Nat.mul_comm]⟩ c1
 have c2':M'.Coprime d':=Nat.Coprime.coprime_dvd_left ⟨m,by rw[hM',Nat.mul_comm]⟩ c2
 have hb1:b'≠0:=by rintro rfl;rw[Nat.mul_zero] at hb';omega
 have hd1:d'≠0:=by rintro rfl;rw[Nat.mul_zero] at hd';omega
 have hk1:k'≠0:=by rintro rfl;rw[Nat.mul_zero] at hk';omega
 refine dz _ _ (Nat.mul_ne_zero hb1 (Nat.mul_ne_zero hk1 hd1)) (by rw[jg];exact c1'.mul_right (c3.mul_right c2')) _ ?_
 have hx:=qav f g
 generalize (f+g).num=n at *
 generalize (f+g).den=e at *
 have hs:sgn s M=sgn s M' * m:=by rw[hM',Nat.mul_comm,rf]
 rw[hs] at hN
 rw[hb',hd',hk'] at hx
 have hmz:(m:Int)≠0:=by omega
 have hkz:(k':Int)≠0:=by omega
 have hx2:(n*((b' * (k' * d'):Nat):Int))*(m*m*k')=(sgn s M' * e)*(m*m*k'):=by
  have h5:(f.num*(d':Int)+g.num*b')*(m*k')*e*m=sgn s M' * m*(m*k')*e*m:=by rw[hN]
  simp only[Int.natCast_mul] at hx ⊢
  grind
 exact Int.eq_of_mul_eq_mul_right (Int.mul_ne_zero (Int.mul_ne_zero hmz hmz) hkz) hx2
theorem zeh (f:Rat):f.num=sgn (decide (f.num<0)) f.num.natAbs:=by
 unfold sgn
 by_cases h:f.num<0
 ·simp only[h,decide_true,if_true];omega
 ·simp only[h,decide_false,Bool.false_eq_true,if_false];omega
theorem zqm (f g:Rat) (p q:Nat) (hp:p=Nat.gcd f.num.natAbs g.den) (hq:q=Nat.gcd g.num.natAbs f.den):(f*g).num=sgn (decide (f.num<0) != decide (g.num<0)) (f.num.natAbs/p*(g.num.natAbs/q))∧(f*g).den=(f.den/q)*(g.den/p):=by
 have hb0:0<f.den:=Nat.pos_of_ne_zero f.den_nz
 have hd0:0<g.den:=Nat.pos_of_ne_zero g.den_nz
 have hp0:0<p:=by rw[hp];exact Nat.gcd_pos_of_pos_right _ hd0
 have hq0:0<q:=by rw[hq];exact Nat.gcd_pos_of_pos_right _ hb0
 have pa:p ∣ f.num.natAbs:=by rw[hp];exact Nat.gcd_dvd_left _ _
 have pd:p ∣ g.den:=by rw[hp];exact Nat.gcd_dvd_right _ _
 have qc:q ∣ g.num.natAbs:=by rw[hq];exact Nat.gcd_dvd_left _ _
 have qb:q ∣ f.den:=by rw[hq];exact Nat.gcd_dvd_right _ _
 have c1:(f.num.natAbs/p).Coprime (g.den/p):=by rw[hp];exact Nat.coprime_div_gcd_div_gcd (by rw[← hp];exact hp0)
 have c2:(g.num.natAbs/q).Coprime (f.den/q):=by rw[hq];exact Nat.coprime_div_gcd_div_gcd (by rw[← hq];exact hq0)
 have c3:(f.num.natAbs/p).Coprime (f.den/q):=Nat.Coprime.coprime_dvd_left (Nat.div_dvd_of_dvd pa) (Nat.Coprime.coprime_dvd_right (Nat.div_dvd_of_dvd qb) f.reduced)
 have c4:(g.num.natAbs/q).Coprime (g.den/p):=Nat.Coprime.coprime_dvd_left (Nat.div_dvd_of_dvd qc) (Nat.Coprime.coprime_dvd_right (Nat.div_dvd_of_dvd pd) g.reduced)
 have hx:=zho f g
 rw[zeh f,zeh g] at hx
 generalize decide (f.num<0)=s at *
 generalize decide (g.num<0)=t at *
 have nz1:f.den/q≠0:=Nat.ne_of_gt (Nat.div_pos (Nat.le_of_dvd hb0 qb) hq0)
 have nz2:g.den/p≠0:=Nat.ne_of_gt (Nat.div_pos (Nat.le_of_dvd hd0 pd) hp0)
 refine dz _ _ (Nat.mul_ne_zero nz1 nz2) (by rw[jg];exact (c3.mul_right c1).mul_left (c2.mul_right c4)) _ ?_
 obtain⟨a',ha⟩:=pa
 obtain⟨d',hd⟩:=pd
 obtain⟨c',hc⟩:=qc
 obtain⟨b',hb⟩:=qb
 rw[ha,hc,hb,hd] at hx
 rw[ha,hc,hb,hd,Nat.mul_div_cancel_left _ hp0,Nat.mul_div_cancel_left _ hq0,Nat.mul_div_cancel_left _ hq0,Nat.mul_div_cancel_left _ hp0]
 generalize (f*g).num=n at *
 generalize (f*g).den=e at *
 have hpz:(p:Int)≠0:=by omega
 have hqz:(q:Int)≠0:=by omega
 refine Int.eq_of_mul_eq_mul_right (a:=(p*q:Int)) (Int.mul_ne_zero hpz hqz) ?_
 cases s <;> cases t <;> simp only[sgn,Int.natCast_mul,bne_self_eq_false,Bool.false_eq_true,if_false,if_true,Bool.not_false,Bool.bne_false,Bool.bne_true] at hx ⊢ <;> grind
end Go.Proofs.YtcgecpoedojhjaaGreatDoor
namespace Go.Proofs
open Go.Proofs.Tryz
open Go.Shelf
def Tryz.lays99_ren : Go.Shelf.Ren := ⟨fun | 99 => 135 | 206 => 169 | n => n, fun | 3 => 3 | 4 => 4 | 9 => 9 | n => n, fun | n => n⟩
theorem Tryz.lays99 : Go.Proofs.Lays.n99 Tryz.prog Tryz.lays99_ren := {
  mixed := by kernel_rfl
  f99 := Tryz.func135.trans (congrArg some (by kernel_rfl))
  f206 := Tryz.func169.trans (congrArg some (by kernel_rfl))
  t3 := Tryz.underlying3
  a3 := Tryz.isAgg3
  z3 := Tryz.sizeOf3
  v3 := Tryz.zeroValue3
  t4 := Tryz.underlying4
  a4 := Tryz.isAgg4
  z4 := Tryz.sizeOf4
  v4 := Tryz.zeroValue4
  t9 := Tryz.underlying9
  a9 := Tryz.isAgg9
  z9 := Tryz.sizeOf9
  v9 := Tryz.zeroValue9 }
theorem Tryz.strings_HasPrefix (s p:ByteArray) (w:World) :
  Calls prog 135 #[.string s,.string p] w fun e w'=>e=.returned (.bool (Lib.hasPrefix s.data.toList p.data.toList))∧w'=w:=Any.strings_HasPrefix Tryz.lays99 s p w
end Go.Proofs
