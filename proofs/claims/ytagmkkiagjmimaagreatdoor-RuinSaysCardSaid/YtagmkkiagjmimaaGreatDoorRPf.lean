/- Plain facts on fractions: what a sum and -/
import Derived.Laws.AppendOwn
import Derived.Test.YtagmkkiagjmimaaGreatDoorRG0
import Derived.Test.YtagmkkiagjmimaaGreatDoorRR0
namespace Go.Proofs.YtagmkkiagjmimaaGreatDoor
open Go.Proofs.Tryz
set_option maxHeartbeats 4000000
set_option maxRecDepth 100000
theorem ig (n:Int) (d:Nat) (hd:d≠0) (hc:n.natAbs.Coprime d) (q:Rat) (h:q.num*d=n*q.den):q.num=n∧q.den=d:=by(
have e:q=⟨n,d,hd,hc⟩:=by
 rw[Rat.mk_eq_mkRat,← Rat.mkRat_self q,Rat.mkRat_eq_iff q.den_nz hd]
 exact h
rw[e]
exact⟨rfl,rfl⟩)
def sgn (s:Bool) (m:Nat):Int:=if s then -(m:Int) else (m:Int)
theorem jk (s:Bool) (m:Nat):(sgn s m).natAbs=m:=by cases s <;> simp[sgn]
theorem zak (s:Bool) (m k:Nat):sgn s (m*k)=sgn s m*k:=by cases s <;> simp[sgn,Int.neg_mul]
theorem zqh (f g:Rat):(f+g).num*(f.den*g.den:Nat)=(f.num*g.den+g.num*f.den)*(f+g).den:=by(
have h:=Rat.add_def' f g
rw[← Rat.mkRat_self (f+g),Rat.mkRat_eq_iff (f+g).den_nz (Nat.mul_ne_zero f.den_nz g.den_nz)] at h
exact h)
theorem zbx (f g:Rat):(f*g).num*(f.den*g.den:Nat)=(f.num*g.num)*(f*g).den:=by(
have h:=Rat.mul_def' f g
rw[← Rat.mkRat_self (f*g),Rat.mkRat_eq_iff (f*g).den_nz (Nat.mul_ne_zero f.den_nz g.den_nz)] at h
exact h)
theorem qan (a c:Int) (b b' d':Nat) (hab:a.natAbs.Coprime b) (hb:b' ∣ b) (hbd:b'.Coprime d'):(a*d' + c*b').natAbs.Coprime b':=by(
rw[Nat.Coprime]
have hp1:Nat.gcd (a*d' + c*b').natAbs b' ∣ b':=Nat.gcd_dvd_right _ _
have hp2:Nat.gcd (a*d' + c*b').natAbs b' ∣ (a*d' + c*b').natAbs:=Nat.gcd_dvd_left _ _
generalize Nat.gcd (a*d' + c*b').natAbs b'=p at *
have h1:(p:Int) ∣ a*d' + c*b':=Int.ofNat_dvd_left.2 hp2
have h2:(p:Int) ∣ c*b':=Int.dvd_mul_of_dvd_right (Int.natCast_dvd_natCast.2 hp1)
have h3:(p:Int) ∣ a*d':=(Int.dvd_add_left h2).1 h1
have h4:p ∣ a.natAbs*d':=by
 have:=Int.ofNat_dvd_left.1 h3
 rwa [Int.natAbs_mul,Int.natAbs_natCast] at this
have h5:p.Coprime a.natAbs:=Nat.Coprime.coprime_dvd_left (Nat.dvd_trans hp1 hb) hab.symm
have h6:p ∣ d':=h5.dvd_of_dvd_mul_left h4
have h7:p ∣ Nat.gcd b' d':=Nat.dvd_gcd hp1 h6
rw[hbd] at h7
exact Nat.dvd_one.1 h7)
theorem zsv (f g:Rat) (s:Bool) (M k m:Nat) (hk:k=Nat.gcd f.den g.den) (hm:m=Nat.gcd M k) (hN:f.num*(g.den/k:Nat)+g.num*(f.den/k:Nat)=sgn s M):(f+g).num=sgn s (M/m)∧(f+g).den=(f.den/k)*(g.den/m):=by(
have hb0:0<f.den:=Nat.pos_of_ne_zero f.den_nz
have hd0:0<g.den:=Nat.pos_of_ne_zero g.den_nz
have hk0:0<k:=by rw[hk];exact Nat.gcd_pos_of_pos_left _ hb0
have kb:k ∣ f.den:=by rw[hk];exact Nat.gcd_dvd_left _ _
have kd:k ∣ g.den:=by rw[hk];exact Nat.gcd_dvd_right _ _
have hcop:(f.den/k).Coprime (g.den/k):=by rw[hk];exact Nat.coprime_div_gcd_div_gcd (by rw[← hk];exact hk0)
have hm0:0<m:=by rw[hm];exact Nat.gcd_pos_of_pos_right _ hk0
have mk:m ∣ k:=by rw[hm];exact Nat.gcd_dvd_right _ _
have mM:m ∣ M:=by rw[hm];exact Nat.gcd_dvd_left _ _
have c1:M.Coprime (f.den/k):=by
 have:=qan f.num g.num f.den (f.den/k) (g.den/k) f.reduced (Nat.div_dvd_of_dvd kb) hcop
 rwa [hN,jk] at this
have c2:M.Coprime (g.den/k):=by
 have:=qan g.num f.num g.den (g.den/k) (f.den/k) g.reduced (Nat.div_dvd_of_dvd kd) hcop.symm
 rw[Int.add_comm] at this
 rwa [hN,jk] at this
have c3:(M/m).Coprime (k/m):=by rw[hm];exact Nat.coprime_div_gcd_div_gcd (by rw[← hm];exact hm0)
obtain⟨b',hb'⟩:=kb
obtain⟨d',hd'⟩:=kd
obtain⟨k',hk'⟩:=mk
obtain⟨M',hM'⟩:=mM
have e1:f.den/k=b':=by rw[hb',Nat.mul_div_cancel_left _ hk0]
have e2:g.den/k=d':=by rw[hd',Nat.mul_div_cancel_left _ hk0]
have e3:k/m=k':=by rw[hk',Nat.mul_div_cancel_left _ hm0]
have e4:M/m=M':=by rw[hM',Nat.mul_div_cancel_left _ hm0]
have e5:g.den/m=k' * d':=by rw[hd',hk',Nat.mul_assoc,Nat.mul_div_cancel_left _ hm0]
rw[e1,e2] at hN
rw[e1] at c1
rw[e2] at c2
rw[e3,e4] at c3
rw[e1,e4,e5]
have c1':M'.Coprime b':=Nat.Coprime.coprime_dvd_left ⟨m,by rw[hM',Nat.mul_comm]⟩ c1
have c2':M'.Coprime d':=Nat.Coprime.coprime_dvd_left ⟨m,by rw[hM',Nat.mul_comm]⟩ c2
have hb1:b'≠0:=by rintro rfl;rw[Nat.mul_zero] at hb';omega
have hd1:d'≠0:=by rintro rfl;rw[Nat.mul_zero] at hd';omega
have hk1:k'≠0:=by rintro rfl;rw[Nat.mul_zero] at hk';omega
refine ig _ _ (Nat.mul_ne_zero hb1 (Nat.mul_ne_zero hk1 hd1)) (by rw[jk];exact c1'.mul_right (c3.mul_right c2')) _ ?_
have hx:=zqh f g
generalize (f+g).num=n at *
generalize (f+g).den=e at *
have hs:sgn s M=sgn s M' * m:=by rw[hM',Nat.mul_comm,zak]
rw[hs] at hN
rw[hb',hd',hk'] at hx
have hmz:(m:Int)≠0:=by omega
have hkz:(k':Int)≠0:=by omega
have hx2:(n*((b' * (k' * d'):Nat):Int))*(m*m*k')=(sgn s M' * e)*(m*m*k'):=by
 have h5:(f.num*(d':Int)+g.num*b')*(m*k')*e*m=sgn s M' * m*(m*k')*e*m:=by rw[hN]
 simp only[Int.natCast_mul] at hx ⊢
 grind
exact Int.eq_of_mul_eq_mul_right (Int.mul_ne_zero (Int.mul_ne_zero hmz hmz) hkz) hx2)
theorem zgb (f:Rat):f.num=sgn (decide (f.num<0)) f.num.natAbs:=by(
unfold sgn
by_cases h:f.num<0
·simp only[h,decide_true,if_true];omega
·simp only[h,decide_false,Bool.false_eq_true,if_false];omega)
theorem zrz (f g:Rat) (p q:Nat) (hp:p=Nat.gcd f.num.natAbs g.den) (hq:q=Nat.gcd g.num.natAbs f.den):(f*g).num=sgn (decide (f.num<0) != decide (g.num<0)) (f.num.natAbs/p*(g.num.natAbs/q))∧(f*g).den=(f.den/q)*(g.den/p):=by(
have hb0:0<f.den:=Nat.pos_of_ne_zero f.den_nz
have hd0:0<g.den:=Nat.pos_of_ne_zero g.den_nz
have hp0:0<p:=by rw[hp];exact Nat.gcd_pos_of_pos_right _ hd0
have hq0:0<q:=by rw[hq];exact Nat.gcd_pos_of_pos_right _ hb0
have pa:p ∣ f.num.natAbs:=by rw[hp];exact Nat.gcd_dvd_left _ _
have pd:p ∣ g.den:=by rw[hp];exact Nat.gcd_dvd_right _ _
have qc:q ∣ g.num.natAbs:=by rw[hq];exact Nat.gcd_dvd_left _ _
have qb:q ∣ f.den:=by rw[hq];exact Nat.gcd_dvd_right _ _
have c1:(f.num.natAbs/p).Coprime (g.den/p):=by rw[hp];exact Nat.coprime_div_gcd_div_gcd (by rw[← hp];exact hp0)
have c2:(g.num.natAbs/q).Coprime (f.den/q):=by rw[hq];exact Nat.coprime_div_gcd_div_gcd (by rw[← hq];exact hq0)
have c3:(f.num.natAbs/p).Coprime (f.den/q):=Nat.Coprime.coprime_dvd_left (Nat.div_dvd_of_dvd pa) (Nat.Coprime.coprime_dvd_right (Nat.div_dvd_of_dvd qb) f.reduced)
have c4:(g.num.natAbs/q).Coprime (g.den/p):=Nat.Coprime.coprime_dvd_left (Nat.div_dvd_of_dvd qc) (Nat.Coprime.coprime_dvd_right (Nat.div_dvd_of_dvd pd) g.reduced)
have hx:=zbx f g
rw[zgb f,zgb g] at hx
generalize decide (f.num<0)=s at *
generalize decide (g.num<0)=t at *
have nz1:f.den/q≠0:=Nat.ne_of_gt (Nat.div_pos (Nat.le_of_dvd hb0 qb) hq0)
have nz2:g.den/p≠0:=Nat.ne_of_gt (Nat.div_pos (Nat.le_of_dvd hd0 pd) hp0)
refine ig _ _ (Nat.mul_ne_zero nz1 nz2) (by rw[jk];exact (c3.mul_right c1).mul_left (c2.mul_right c4)) _ ?_
obtain⟨a',ha⟩:=pa
obtain⟨d',hd⟩:=pd
obtain⟨c',hc⟩:=qc
obtain⟨b',hb⟩:=qb
rw[ha,hc,hb,hd] at hx
rw[ha,hc,hb,hd,Nat.mul_div_cancel_left _ hp0,Nat.mul_div_cancel_left _ hq0,Nat.mul_div_cancel_left _ hq0,Nat.mul_div_cancel_left _ hp0]
generalize (f*g).num=n at *
generalize (f*g).den=e at *
have hpz:(p:Int)≠0:=by omega
have hqz:(q:Int)≠0:=by omega
refine Int.eq_of_mul_eq_mul_right (a:=(p*q:Int)) (Int.mul_ne_zero hpz hqz) ?_
cases s <;> cases t <;> simp only[sgn,Int.natCast_mul,bne_self_eq_false,Bool.false_eq_true,if_false,if_true,Bool.not_false,Bool.bne_false,Bool.bne_true] at hx ⊢ <;> grind)
open Go.RowKit
def am (w:World) (v:Value) (f:Rat):Prop :=
 (f.num.natAbs < 18446744073709551616∧f.den < 18446744073709551616∧v=.agg #[.bool (decide (f.num<0)),.int .u64 (f.num.natAbs:Int),.int .u64 ((f.den:Int)-1),.pointer none]) ∨
 ((18446744073709551616≤f.num.natAbs∨18446744073709551616≤f.den)∧∃ b v1 v2,v=.agg #[.bool (decide (f.num<0)),.int .u64 0,.int .u64 0,.pointer (some ⟨b,0,none⟩)]∧w.cell? ⟨b,0,none⟩=some v1∧w.cell? ⟨b,1,none⟩=some v2∧Sl .u64 w v1 (wd 18446744073709551616 f.num.natAbs)∧Sl .u64 w v2 (wd 18446744073709551616 f.den))
theorem am.but {w w':World} {v:Value} {f:Rat} (h:am w v f) (hb:But [] w w'):am w' v f:=by(
rcases h with h|⟨h1,b,v1,v2,h2,h3,h4,h5,h6⟩
·exact .inl h
·exact .inr ⟨h1,b,v1,v2,h2,hb.ag h3 (by simp),hb.ag h4 (by simp),h5.ah hb,h6.ah hb⟩)
theorem am.over {w W:World} {v:Value} {f:Rat} (h:am w v f) {g:Nat} {s:Bool} (c0:w.cell? ⟨g,0,none⟩=some (.bool s)) (hb:But [g] w W):am W v f:=by(
rcases h with h1|⟨h1,b,v1,v2,h2,h3,h4,h5,h6⟩
·exact .inl h1
·(
have hbg:b≠g:=by
 rintro rfl
 obtain⟨a,cap,rfl,-⟩:=h5
 rw[c0] at h3
 simp at h3
exact .inr ⟨h1,b,v1,v2,h2,hb.ag h3 (by simpa using hbg),hb.ag h4 (by simpa using hbg),h5.over hb c0 (by simp),h6.over hb c0 (by simp)⟩))
def Len (f:Rat) (n:Nat):Prop:=(wd 18446744073709551616 f.num.natAbs).length≤n∧(wd 18446744073709551616 f.den).length≤n
theorem den_pos (f:Rat):0<f.den:=Nat.pos_of_ne_zero f.den_nz
theorem yu (v:Value) (f:Rat) (w:World) (hf:am w v f) :
  Calls prog 62 #[v] w fun e w'=>∃ v1 v2,e=.returned (.tuple #[v1,v2])∧Sl .u64 w' v1 (wd 18446744073709551616 f.num.natAbs)∧Sl .u64 w' v2 (wd 18446744073709551616 f.den)∧But [] w w':=by(
rcases hf with ⟨hp,hq,rfl⟩|⟨-,b,v1,v2,rfl,hc0,hc1,hs1,hs2⟩
·(
have hq0:=den_pos f
generalize decide (f.num<0)=s
generalize f.num.natAbs=p at *
generalize f.den=q at *
go_enter func62,ntmps62
go_wp2
obtain⟨W,hW⟩:∃ W,W=w.alloc (.cells #[.bool s,.int .u64 (p:Int),.int .u64 ((q:Int)-1),.pointer none] 27):=⟨_,rfl⟩
have c0:W.cell? ⟨w.heap.size,0,none⟩=some (.bool s):=by rw[hW];simp
have c1:W.cell? ⟨w.heap.size,1,none⟩=some (.int .u64 (p:Int)):=by rw[hW];simp
have c2:W.cell? ⟨w.heap.size,2,none⟩=some (.int .u64 ((q:Int)-1)):=by rw[hW];simp
have c3:W.cell? ⟨w.heap.size,3,none⟩=some (.pointer none):=by rw[hW];simp
have hB:But [] w W:=by rw[hW];exact (But.refl _ _).alloc _
rw[← hW]
clear hW
generalize w.heap.size=g at *
go_region_held (fun w'=>w'.cell? ⟨g,0,none⟩=some (.bool s)∧w'.cell? ⟨g,1,none⟩=some (.int .u64 (p:Int))∧w'.cell? ⟨g,2,none⟩=some (.int .u64 ((q:Int)-1))∧w'.cell? ⟨g,3,none⟩=some (.pointer none)) (go_keep) (first
 | (go_at_call_of 139 (Value.int IntKind.u64 (p:Int));refine (ji p hp _).mono ?_;rintro e w1 ⟨v1,rfl,hv1,hb1,-⟩;have B1:But [] W w1:=(by first | exact hb1 | exact (But.refl _ _).drew.trans' hb1);have k0:=B1.ag c0 (by simp);have k1:=B1.ag c1 (by simp);have k2:=B1.ag c2 (by simp);have k3:=B1.ag c3 (by simp))
 | (go_at_call 140;refine (mg s p q hq hq0 _).mono ?_;rintro e w2 ⟨rfl,hb2⟩;have B2:But [] W w2:=B1.trans' hb2;have l0:=B2.ag c0 (by simp);have l1:=B2.ag c1 (by simp);have l2:=B2.ag c2 (by simp);have l3:=B2.ag c3 (by simp))
 | (go_at_call_of 139 (Value.int IntKind.u64 (q:Int));refine (ji q hq _).mono ?_;rintro e w3 ⟨v3,rfl,hv3,hb3,-⟩;have B3:But [] W w3:=B2.trans' hb3;have m0:=B3.ag c0 (by simp);have m1:=B3.ag c1 (by simp);have m2:=B3.ag c2 (by simp);have m3:=B3.ag c3 (by simp)))
all_goals go_wp2
all_goals go_ret2
all_goals exact⟨v1,v3,rfl,(hv1.ah hb2).ah hb3,hv3,hB.trans' B3⟩)
·(
have hbl:b<w.heap.size:=ai hc0
have HS:=af (And.intro hs1 hs2)
clear hs1 hs2
generalize decide (f.num<0)=s
go_enter func62,ntmps62
go_wp2
obtain⟨W,hW⟩:∃ W,W=w.alloc (.cells #[.bool s,.int .u64 0,.int .u64 0,.pointer (some ⟨b,0,none⟩)] 27):=⟨_,rfl⟩
have HB:Hid (But [] w W):=by show But _ _ _;rw[hW];exact (But.refl _ _).alloc _
have c3:W.cell? ⟨w.heap.size,3,none⟩=some (.pointer (some ⟨b,0,none⟩)):=by rw[hW];simp
have d0:=(ae HB).ag hc0 (by simp)
have d1:=(ae HB).ag hc1 (by simp)
rw[← hW]
clear hW hc0 hc1
generalize w.heap.size=g at *
go_quiet (fail)
go_wp2
go_ret2
exact⟨v1,v2,rfl,(ae HS).1.ah ((ae HB).drewN nq),(ae HS).2.ah ((ae HB).drewN nq),(ae HB).drewN nq⟩))
theorem zdy (s:Bool) (m:Nat):decide (sgn s m<0)=(s && decide (m≠0)):=by(
cases s
·have h1:¬ ((m:Int)<0):=by omega
 simp[sgn,h1]
·(
by_cases h0:m=0
·subst h0;rfl
·have h1:-(m:Int)<0:=by omega
 have h2:0<m:=by omega
 simp[sgn,h0,h2]))
theorem oq (s:Bool) (v1 v2:Value) (f:Rat) (w:World) (h1:Sl .u64 w v1 (wd 18446744073709551616 f.num.natAbs)) (h2:Sl .u64 w v2 (wd 18446744073709551616 f.den)) (hs:f.num=sgn s f.num.natAbs) (hl1:(wd 18446744073709551616 f.num.natAbs).length<2147483648) (hl2:(wd 18446744073709551616 f.den).length<2147483648) :
  Calls prog 169 #[.bool s,v1,v2] w fun e w'=>∃ v,e=.returned v∧am w' v f∧But [] w w':=by(
have hsg:decide (f.num<0)=(s && decide (f.num.natAbs≠0)):=by rw[hs,jk];exact zdy _ _
have hq0:=den_pos f
have hle0:w.heap.size≤w.heap.size:=Nat.le_refl _
obtain⟨W0,hW0⟩:∃ W0,W0=w.alloc (.cells #[.bool false,.int .u64 0,.int .u64 0,.pointer none] 27):=⟨_,rfl⟩
have hB0:But [] w W0:=by rw[hW0];exact (But.refl _ _).alloc _
have c0:W0.cell? ⟨w.heap.size,0,none⟩=some (.bool false):=by rw[hW0];simp
have c1:W0.cell? ⟨w.heap.size,1,none⟩=some (.int .u64 0):=by rw[hW0];simp
have c2:W0.cell? ⟨w.heap.size,2,none⟩=some (.int .u64 0):=by rw[hW0];simp
have c3:W0.cell? ⟨w.heap.size,3,none⟩=some (.pointer none):=by rw[hW0];simp
have fz:∀ j,W0.frozen? ⟨w.heap.size,j,none⟩=false:=by intro j;rw[hW0];simp
have hgs:w.heap.size<W0.heap.size:=by rw[hW0];simp
have h1':=h1.ah hB0
have h2':=h2.ah hB0
have HW0:=af hW0
have HB0:=af hB0
clear hW0 hB0 hle0
by_cases hb:f.num.natAbs < 18446744073709551616∧f.den < 18446744073709551616
·(
obtain⟨hp,hq⟩:=hb
have HW1:=af (zay v1 f.num.natAbs hp W0 h1')
have HW2:=af (zay v2 f.den hq W0 h2')
have HO:=af (zax s f.num.natAbs f.den hp hq hq0 (decide (f.num<0)) hsg W0)
have FIN:Hid (∀ W,am W (.agg #[.bool (decide (f.num<0)),.int .u64 (f.num.natAbs:Int),.int .u64 ((f.den:Int)-1),.pointer none]) f):=fun W=>.inl ⟨hp,hq,rfl⟩
obtain⟨a1,d1,rfl,-,-⟩:=h1
obtain⟨a2,d2,rfl,-,-⟩:=h2
clear hs hsg h1' h2'
generalize (wd 18446744073709551616 f.num.natAbs).length=n1 at *
generalize (wd 18446744073709551616 f.den).length=n2 at *
generalize decide (f.num<0)=r at *
generalize f.num.natAbs=p at *
generalize hqq:f.den=q at *
clear hqq
go_enter func169,ntmps169
go_wp2_with fail
rw[← ae HW0]
obtain⟨g,hg⟩:∃ g,g=w.heap.size:=⟨_,rfl⟩
rw[← hg] at c0 c1 c2 c3 fz hgs
rw[← hg]
have HG:Hid (w.heap.size≤g):=Nat.le_of_eq hg.symm
clear hg HW0
refine (ae HW1).mono ?_
rintro e w1 ⟨rfl,hw⟩
obtain rfl:=hw.symm
clear hw
go_wp2_with fail
refine (ae HW2).mono ?_
rintro e w1 ⟨rfl,hw⟩
obtain rfl:=hw.symm
clear hw
go_wp2_with fail
refine (ae HO).mono ?_
rintro e w1 ⟨rfl,hb1⟩
have k0:=hb1.ag c0 (by simp)
have k1:=hb1.ag c1 (by simp)
have k2:=hb1.ag c2 (by simp)
have k3:=hb1.ag c3 (by simp)
have kf:∀ j,w1.frozen? ⟨g,j,none⟩=false:=fun j=>(hb1.frozen (p:=⟨g,j,none⟩) hgs (by simp)).trans (fz j)
have HB1:=af ((ae HB0).trans' hb1)
clear hb1 c0 c1 c2 c3 fz
go_wp2
refine bodyPost_ret (v:=.agg #[.bool r,.int .u64 (p:Int),.int .u64 ((q:Int)-1),.pointer none]) (by simp[results,results169,go_sem,k0,k1,k2,k3]) rfl ⟨_,rfl,ae FIN _,?_⟩
exact ((((ae HB1).setCell (.inr (ae HG)) _).setCell (.inr (ae HG)) _).setCell (.inr (ae HG)) _).setCell (.inr (ae HG)) _)
·(
have hbig:18446744073709551616≤f.num.natAbs∨18446744073709551616≤f.den:=by omega
have hr:decide (f.num<0)=s:=by
 rw[hsg]
 have hn0:f.num.natAbs≠0:=by
  intro e0
  have e1:=f.reduced
  rw[e0,Nat.coprime_zero_left] at e1
  omega
 simp[hn0]
have H1:=af h1
have H2:=af h2
have HWS:Hid ((f.num.natAbs < 18446744073709551616∧Calls prog 141 #[v1] W0 (fun e w'=>e=.returned (.tuple #[.int .u64 (f.num.natAbs:Int),.bool true])∧w'=W0)∧Calls prog 141 #[v2] W0 (fun e w'=>e=.returned (.tuple #[.int .u64 0,.bool false])∧w'=W0))∨(∃ (x:Nat) (t:Bool),Calls prog 141 #[v1] W0 (fun e w'=>e=.returned (.tuple #[.int .u64 0,.bool false])∧w'=W0)∧Calls prog 141 #[v2] W0 (fun e w'=>e=.returned (.tuple #[.int .u64 (x:Int),.bool t])∧w'=W0))):=by
 rcases Nat.lt_or_ge f.num.natAbs 18446744073709551616 with hp | hp
 ·exact .inl ⟨hp,zay v1 _ hp W0 h1',ul v2 _ (by omega) W0 h2' hl2⟩
 ·rcases Nat.lt_or_ge f.den 18446744073709551616 with hq | hq
  ·exact .inr ⟨f.den,true,ul v1 _ hp W0 h1' hl1,zay v2 _ hq W0 h2'⟩
  ·exact .inr ⟨0,false,ul v1 _ hp W0 h1' hl1,ul v2 _ hq W0 h2' hl2⟩
obtain⟨a1,d1,rfl,-,-⟩:=h1
obtain⟨a2,d2,rfl,-,-⟩:=h2
have FIN:Hid (∀ W b v1 v2,W.cell? ⟨b,0,none⟩=some v1→W.cell? ⟨b,1,none⟩=some v2→Sl .u64 W v1 (wd 18446744073709551616 f.num.natAbs)→Sl .u64 W v2 (wd 18446744073709551616 f.den)→am W (.agg #[.bool s,.int .u64 0,.int .u64 0,.pointer (some ⟨b,0,none⟩)]) f):=fun W b v1 v2 e1 e2 e3 e4=>.inr ⟨hbig,b,v1,v2,by rw[hr],e1,e2,e3,e4⟩
clear hs hsg h1' h2' hr hb hbig
generalize (wd 18446744073709551616 f.num.natAbs).length=n1 at *
generalize (wd 18446744073709551616 f.den).length=n2 at *
rcases ae HWS with ⟨-,w1c,w2c⟩|⟨x,t,w1c,w2c⟩
all_goals(
have HW1:=af w1c
have HW2:=af w2c
clear w1c w2c HWS
go_enter func169,ntmps169
go_wp2_with fail
rw[← ae HW0]
obtain⟨g,hg⟩:∃ g,g=w.heap.size:=⟨_,rfl⟩
rw[← hg] at c0 c1 c2 c3 fz hgs
rw[← hg]
have HG:Hid (w.heap.size≤g):=Nat.le_of_eq hg.symm
clear hg HW0
refine (ae HW1).mono ?_
rintro e w1 ⟨rfl,hw⟩
obtain rfl:=hw.symm
clear hw
go_wp2_with fail
refine (ae HW2).mono ?_
rintro e w1 ⟨rfl,hw⟩
obtain rfl:=hw.symm
clear hw
go_wp2
have hBf:=(((((ae HB0).setCell (p:=⟨g,0,none⟩) (.inr (ae HG)) (.bool s)).setCell (p:=⟨g,1,none⟩) (.inr (ae HG)) (.int .u64 0)).setCell (p:=⟨g,2,none⟩) (.inr (ae HG)) (.int .u64 0)).setCell (p:=⟨g,3,none⟩) (.inr (ae HG)) (.pointer (some ⟨W0.heap.size,0,none⟩))).alloc (.cells #[.slice a1 n1 d1,.slice a2 n2 d2] 179)
refine bodyPost_ret (v:=.agg #[.bool s,.int .u64 0,.int .u64 0,.pointer (some ⟨W0.heap.size,0,none⟩)]) (by simp[results,results169,go_sem,c0,c1,c2,c3,hgs]) rfl ⟨_,rfl,ae FIN _ W0.heap.size (.slice a1 n1 d1) (.slice a2 n2 d2) ?_ ?_ ((ae H1).ah hBf) ((ae H2).ah hBf),hBf⟩
·have:=World.cell?_alloc_new ((((W0.setCell ⟨g,0,none⟩ (.bool s)).setCell ⟨g,1,none⟩ (.int .u64 0)).setCell ⟨g,2,none⟩ (.int .u64 0)).setCell ⟨g,3,none⟩ (.pointer (some ⟨W0.heap.size,0,none⟩))) #[.slice a1 n1 d1,.slice a2 n2 d2] 179 0
 simpa using this
·have:=World.cell?_alloc_new ((((W0.setCell ⟨g,0,none⟩ (.bool s)).setCell ⟨g,1,none⟩ (.int .u64 0)).setCell ⟨g,2,none⟩ (.int .u64 0)).setCell ⟨g,3,none⟩ (.pointer (some ⟨W0.heap.size,0,none⟩))) #[.slice a1 n1 d1,.slice a2 n2 d2] 179 1
 simpa using this)))
def P4o (w:World) (b o:Nat) (s:Bool) (x y:Int) (p:Option Addr):Prop:=w.cell? ⟨b,o,none⟩=some (.bool s)∧w.cell? ⟨b,o+1,none⟩=some (.int .u64 x)∧w.cell? ⟨b,o+2,none⟩=some (.int .u64 y)∧w.cell? ⟨b,o+3,none⟩=some (.pointer p)
theorem P4o.but {w w':World} {b o:Nat} {s:Bool} {x y:Int} {p:Option Addr} {l:List Nat} (h:P4o w b o s x y p) (hb:But l w w') (hn:b ∉ l):P4o w' b o s x y p:=⟨hb.ag h.1 hn,hb.ag h.2.1 hn,hb.ag h.2.2.1 hn,hb.ag h.2.2.2 hn⟩
def zdh (w:World) (b o:Nat) (f:Rat):Prop:=∃ s x y p,P4o w b o s x y p∧am w (.agg #[.bool s,.int .u64 x,.int .u64 y,.pointer p]) f
theorem zdh.but {w w':World} {b o:Nat} {f:Rat} (h:zdh w b o f) (hb:But [] w w'):zdh w' b o f:=by
 obtain⟨s,x,y,p,h1,h2⟩:=h
 exact⟨s,x,y,p,h1.but hb (by simp),h2.but hb⟩
theorem Sl.beside {k:IntKind} {w w':World} {v:Value} {xs:List Nat} {l:List Nat} (h:Sl k w v xs) (hb:But l w w') (hc:∀ g ∈ l,∃ i s,w.cell? ⟨g,i,none⟩=some (.bool s)):Sl k w' v xs:=by(
obtain⟨a,cap,rfl,hcp,h,hi⟩:=h
rcases Nat.eq_zero_or_pos xs.length with h0 | h0
·exact⟨a,cap,rfl,hcp,fun i hi=>by omega,fun b off e h1=>by omega⟩
·(
refine Sl.but (xs:=xs) ⟨a,cap,rfl,hcp,h,hi⟩ hb (fun b off cap' n e hm=>?_)
simp only[Value.slice.injEq] at e
obtain⟨rfl,-,-⟩:=e
obtain⟨i,s,hs⟩:=hc b hm
exact (hi _ _ rfl h0).ne hs (by simp) rfl))
theorem am.beside {w W:World} {v:Value} {f:Rat} {l:List Nat} (h:am w v f) (hb:But l w W) (hc:∀ g ∈ l,∃ s,w.cell? ⟨g,0,none⟩=some (.bool s)):am W v f:=by(
rcases h with h1|⟨h1,b,v1,v2,h2,h3,h4,h5,h6⟩
·exact .inl h1
·(
have hbg:b ∉ l:=fun hm=>by
 obtain⟨s,hs⟩:=hc b hm
 obtain⟨a,cap,rfl,-⟩:=h5
 rw[hs] at h3
 simp at h3
exact .inr ⟨h1,b,v1,v2,h2,hb.ag h3 hbg,hb.ag h4 hbg,h5.beside hb (fun g hg=>⟨0,hc g hg⟩),h6.beside hb (fun g hg=>⟨0,hc g hg⟩)⟩))
theorem zdh.beside {w w':World} {b o:Nat} {f:Rat} {l:List Nat} (h:zdh w b o f) (hb:But l w w') (hn:b ∉ l) (hc:∀ g ∈ l,∃ s,w.cell? ⟨g,0,none⟩=some (.bool s)):zdh w' b o f:=by
 obtain⟨s,x,y,p,h1,h2⟩:=h
 exact⟨s,x,y,p,h1.but hb hn,h2.beside hb hc⟩
def aq (w:World) (v:Value) (fs:List Rat):Prop:=∃ a cap,v=.slice a fs.length cap∧fs.length≤cap∧∀ i f,fs[i]? = some f→∃ b off,a=some ⟨b,off,none⟩∧zdh w b (off+i*4) f
theorem aq.nil (w:World):aq w (.slice none 0 0) []:=⟨none,0,rfl,Nat.le_refl _,fun i f h=>by simp at h⟩
theorem aq.but {w w':World} {v:Value} {fs:List Rat} (h:aq w v fs) (hb:But [] w w'):aq w' v fs:=by(
obtain⟨a,cap,e,hc,h⟩:=h
refine⟨a,cap,e,hc,fun i f hf=>?_⟩
obtain⟨b,off,e1,h1⟩:=h i f hf
exact⟨b,off,e1,h1.but hb⟩)
theorem aq.open {w:World} {v:Value} {fs:List Rat} (h:aq w v fs) :
  (fs=[]∧∃ a cap,v=.slice a 0 cap)∨(0<fs.length∧∃ b off cap,v=.slice (some ⟨b,off,none⟩) fs.length cap∧fs.length≤cap∧∀ i f,fs[i]? = some f→zdh w b (off+i*4) f):=by(
obtain⟨a,cap,rfl,hc,h⟩:=h
rcases Nat.eq_zero_or_pos fs.length with h0 | h0
·exact .inl ⟨List.length_eq_zero_iff.1 h0,a,cap,by rw[h0]⟩
·(
obtain⟨b,off,rfl,-⟩:=h 0 fs[0] (List.getElem?_eq_getElem h0)
refine .inr ⟨h0,b,off,cap,rfl,hc,fun i f hf=>?_⟩
obtain⟨b',off',e,h2⟩:=h i f hf
simp only[Option.some.injEq,Addr.mk.injEq] at e
obtain⟨rfl,rfl,_⟩:=e
exact h2))
def zbg (vs:List Value):List Value:=vs.flatMap fun v=>v.cells.toList
structure zzg (w:World) (base:Nat) (e:TypeId) (v:Value) (fs:List Rat) (vs:List Value):Prop where
 own:w.ownsRow base e 4 v fs.length (zbg vs)
 len:vs.length=fs.length
 val:∀ (i:Nat) (f:Rat),fs[i]? = some f→∃ s x y p,vs[i]? = some (Value.agg #[.bool s,.int .u64 x,.int .u64 y,.pointer p])∧am w (.agg #[.bool s,.int .u64 x,.int .u64 y,.pointer p]) f
theorem znb:∀ (vs:List Value),(∀ v ∈ vs,v.cells.size=4)→∀ (i k:Nat) (v:Value),vs[i]? = some v→k<4→(zbg vs)[4*i+k]? = v.cells[k]?
 | [],_,i,k,v,e,_=>by simp at e
 | u::vs,h,0,k,v,e,hk=>by
  have hu:=h u (by simp)
  simp only[List.getElem?_cons_zero,Option.some.injEq] at e
  subst e
  unfold zbg
  rw[List.flatMap_cons,Nat.mul_zero,Nat.zero_add,List.getElem?_append_left (by rw[Array.length_toList,hu];exact hk)]
  simp
 | u::vs,h,i+1,k,v,e,hk=>by
  have hu:=h u (by simp)
  have ih:=znb vs (fun x hx=>h x (by simp[hx])) i k v (by simpa using e) hk
  unfold zbg at ih ⊢
  rw[List.flatMap_cons,List.getElem?_append_right (by rw[Array.length_toList,hu];omega),Array.length_toList,hu,show 4*(i+1)+k-4=4*i+k from by omega]
  exact ih
theorem zos (vs us:List Value):zbg (vs++us)=zbg vs++zbg us:=by unfold zbg;rw[List.flatMap_append]
theorem zzg.znr {w:World} {base:Nat} {e:TypeId} {v:Value} {fs:List Rat} {vs:List Value} (h:zzg w base e v fs vs):aq w v fs:=by(
have h4:∀ u ∈ vs,u.cells.size=4:=fun u hu=>by
 obtain⟨i,hi,rfl⟩:=List.mem_iff_getElem.1 hu
 obtain⟨s,x,y,p,e,-⟩:=h.val i (fs[i]'(by rw[← h.len];exact hi)) (List.getElem?_eq_getElem (by rw[← h.len];exact hi))
 rw[List.getElem?_eq_getElem hi] at e
 rw[Option.some.inj e]
 rfl
obtain⟨hl,⟨rfl,h0⟩|⟨g,cap,cur,rfl,hg,hb,hn,hm,hs,ht⟩⟩:=id h.own
·have:fs=[]:=List.length_eq_zero_iff.1 h0
 subst this
 exact aq.nil w
·(
refine⟨_,cap,rfl,hn,fun i f hf=>⟨g,0,rfl,?_⟩⟩
obtain⟨s,x,y,p,e1,e2⟩:=h.val i f hf
have cell:∀ k,k<4→w.cell? ⟨g,0+i*4+k,none⟩=(#[Value.bool s,.int .u64 x,.int .u64 y,.pointer p]:Array Value)[k]?:=fun k hk=>by
 have h1:=znb vs h4 i k _ e1 hk
 have h2:=h.own.cells (g:=g) rfl
 have hlt:k<(#[Value.bool s,.int .u64 x,.int .u64 y,.pointer p]:Array Value).size:=hk
 have h3:=h2 (4*i+k) _ (h1.trans (Array.getElem?_eq_getElem hlt))
 have h5:(⟨g,0,none⟩:Addr).add (4*i+k)=⟨g,0+i*4+k,none⟩:=by
  by_cases hz:4*i+k=0
  ·simp only[Addr.add,hz,if_true,Addr.mk.injEq,true_and,and_true];omega
  ·simp only[Addr.add,hz,if_false,Addr.mk.injEq,true_and,and_true];omega
 rw[h5] at h3
 rw[h3]
 exact (Array.getElem?_eq_getElem hlt).symm
exact⟨s,x,y,p,⟨cell 0 (by omega),cell 1 (by omega),cell 2 (by omega),cell 3 (by omega)⟩,e2⟩))
theorem zoj (s t:Bool) (v1 v2:Value) (m n:Nat) (w:World) (h1:Sl .u64 w v1 (wd 18446744073709551616 m)) (h2:Sl .u64 w v2 (wd 18446744073709551616 n)) (hl1:(wd 18446744073709551616 m).length<1073741824) (hl2:(wd 18446744073709551616 n).length<1073741824) :
  Calls prog 175 #[.bool s,v1,.bool t,v2] w fun e w'=>∃ (r:Bool) (v:Value) (M:Nat),e=.returned (.tuple #[.bool r,v])∧Sl .u64 w' v (wd 18446744073709551616 M)∧sgn s m+sgn t n=sgn r M∧M≤m+n∧But [] w w':=by(
have HA:=af (o8 v1 v2 m n w h1 h2 hl1 hl2)
have HC:=af (kz v1 v2 m n w h1 h2 (by omega) (by omega))
have H1:=af h1
have H2:=af h2
have HS1:=af (fun (W:World) (a:Sl .u64 W v1 (wd 18446744073709551616 m)) (b:Sl .u64 W v2 (wd 18446744073709551616 n)) (h:n≤m)=>zcc v1 v2 m n W a b hl1 h)
have HS2:=af (fun (W:World) (a:Sl .u64 W v1 (wd 18446744073709551616 m)) (b:Sl .u64 W v2 (wd 18446744073709551616 n)) (h:m≤n)=>zcc v2 v1 n m W b a hl2 h)
obtain⟨a1,c1,rfl,-,-⟩:=h1
obtain⟨a2,c2,rfl,-,-⟩:=h2
generalize (wd 18446744073709551616 m).length=l1 at *
generalize (wd 18446744073709551616 n).length=l2 at *
by_cases hst:s=t
·(
subst hst
have hb:(s==s)=true:=by simp
have HE:Hid (sgn s m+sgn s n=sgn s (m+n)):=by show _=_;cases s <;> simp[sgn] <;> omega
go_enter func175,ntmps175
go_wp2_with fail
refine (ae HA).mono ?_
rintro e w1 ⟨v,rfl,hv,hb1⟩
have R:=af (And.intro hv hb1)
clear hv hb1
go_wp2
go_ret2
exact⟨s,v,m+n,rfl,(ae R).1,ae HE,Nat.le_refl _,(ae R).2⟩)
·(
have hb:(s==t)=false:=by simp[hst]
have ht:t=!s:=by cases s <;> cases t <;> simp_all
rcases Nat.lt_or_ge m n with hlt | hge
·(
rw[uw hlt] at HC
have HE:Hid (sgn s m+sgn t n=sgn t (n-m)):=by
 show _=_
 rw[ht]
 cases s <;> simp[sgn] <;> omega
clear ht
go_enter func175,ntmps175
go_wp2_with fail
refine (ae HC).mono ?_
rintro e w1 ⟨rfl,q,rfl⟩
go_wp2_with fail
refine (ae HS2 _ (by exact ae H1) (by exact ae H2) (Nat.le_of_lt hlt)).mono ?_
rintro e w2 ⟨v,rfl,hv,hb1⟩
have R:=af (And.intro hv (((But.refl [] _).drewN q).trans' hb1))
clear hv hb1
go_wp2
go_ret2
exact⟨t,v,n-m,rfl,(ae R).1,ae HE,by omega,(ae R).2⟩)
·(
have hc0:=zbp hge
have HE:Hid (sgn s m+sgn t n=sgn s (m-n)):=by
 show _=_
 rw[ht]
 cases s <;> simp[sgn] <;> omega
clear ht
generalize zo m n=r at *
have hr:decide (0≤r)=true:=by simp;omega
go_enter func175,ntmps175
go_wp2_with fail
refine (ae HC).mono ?_
rintro e w1 ⟨rfl,q,rfl⟩
go_wp2_with fail
refine (ae HS1 _ (by exact ae H1) (by exact ae H2) hge).mono ?_
rintro e w2 ⟨v,rfl,hv,hb1⟩
have R:=af (And.intro hv (((But.refl [] _).drewN q).trans' hb1))
clear hv hb1
go_wp2
go_ret2
exact⟨s,v,m-n,rfl,(ae R).1,ae HE,by omega,(ae R).2⟩)))
theorem ni (v:Value) (f:Rat) (w:World) (hf:am w v f) :
  Calls prog 99 #[v] w fun e w'=>e=.returned (.int .i64 f.num.sign)∧But [] w w':=by(
rcases hf with ⟨hp,hq,rfl⟩|⟨hbig,b,v1,v2,rfl,-,-,-,-⟩
·(
by_cases hn:f.num<0
·(
have e:f.num.sign=-1:=Int.sign_eq_neg_one_of_neg hn
rw[e]
have hd:decide (f.num<0)=true:=decide_eq_true hn
rw[hd]
generalize f.num.natAbs=p at *
generalize f.den=q at *
clear hn hd e
go_enter func99,ntmps99
go_wp2
go_ret
exact⟨rfl,(But.refl _ _).alloc _⟩)
·(
have hd:decide (f.num<0)=false:=decide_eq_false hn
rw[hd]
rcases Nat.eq_zero_or_pos f.num.natAbs with h0 | h0
·(
have e:f.num.sign=0:=by rw[Int.sign_eq_zero_iff_zero];omega
rw[e,h0]
generalize f.den=q at *
clear hn hd e h0 hp
go_enter func99,ntmps99
go_wp2
go_ret
exact⟨rfl,(But.refl _ _).alloc _⟩)
·(
have e:f.num.sign=1:=Int.sign_eq_one_of_pos (by omega)
rw[e]
generalize f.num.natAbs=p at *
generalize f.den=q at *
have n0:((p:Int)==0)=false:=beq_eq_false_iff_ne.2 (by omega)
clear hn hd e
go_enter func99,ntmps99
go_wp2
go_ret
exact⟨rfl,(But.refl _ _).alloc _⟩)))
·(
have hn0:f.num≠0:=by
 intro e0
 have e1:=f.reduced
 rw[e0,Int.natAbs_zero,Nat.coprime_zero_left] at e1
 rw[e0] at hbig
 simp at hbig
 omega
by_cases hn:f.num<0
·(
have e:f.num.sign=-1:=Int.sign_eq_neg_one_of_neg hn
have hd:decide (f.num<0)=true:=decide_eq_true hn
rw[e,hd]
clear hn hd e hbig hn0
go_enter func99,ntmps99
go_wp2
go_ret
exact⟨rfl,(But.refl _ _).alloc _⟩)
·(
have e:f.num.sign=1:=Int.sign_eq_one_of_pos (by omega)
have hd:decide (f.num<0)=false:=decide_eq_false hn
rw[e,hd]
clear hn hd e hbig hn0
go_enter func99,ntmps99
go_wp2
go_ret
exact⟨rfl,(But.refl _ _).alloc _⟩)))
theorem qht {w:World} {f:Rat} (r:Bool) (hr:r=decide (-f.num<0)) (v:Value) (h:(f.num.natAbs < 18446744073709551616∧f.den < 18446744073709551616∧v=.agg #[.bool r,.int .u64 (f.num.natAbs:Int),.int .u64 ((f.den:Int)-1),.pointer none])∨((18446744073709551616≤f.num.natAbs∨18446744073709551616≤f.den)∧∃ b v1 v2,v=.agg #[.bool r,.int .u64 0,.int .u64 0,.pointer (some ⟨b,0,none⟩)]∧w.cell? ⟨b,0,none⟩=some v1∧w.cell? ⟨b,1,none⟩=some v2∧Sl .u64 w v1 (wd 18446744073709551616 f.num.natAbs)∧Sl .u64 w v2 (wd 18446744073709551616 f.den))):am w v (-f):=by(
unfold am
rw[Rat.neg_num,Rat.neg_den,Int.natAbs_neg,← hr]
exact h)
theorem zvx (v:Value) (f:Rat) (w:World) (hf:am w v f) :
  Calls prog 126 #[v] w fun e w'=>∃ v',e=.returned v'∧am w' v' (-f)∧But [] w w':=by(
have HSg:=af (fun W (h:am W v f)=>ni v f W h)
have HF:=af hf
obtain⟨s,x,y,p,rfl,hs,hsh⟩:∃ s x y p,v=.agg #[.bool s,.int .u64 x,.int .u64 y,.pointer p]∧s=decide (f.num<0)∧(∀ (W:World) (r:Bool),r=decide (-f.num<0)→But [] w W→am W (.agg #[.bool r,.int .u64 x,.int .u64 y,.pointer p]) (-f)):=by
 rcases hf with ⟨hp,hq,rfl⟩|⟨hbig,b,v1,v2,rfl,k0,k1,k2,k3⟩
 ·exact⟨_,_,_,_,rfl,rfl,fun W r hr _=>qht r hr _ (.inl ⟨hp,hq,rfl⟩)⟩
 ·exact⟨_,_,_,_,rfl,rfl,fun W r hr hb=>qht r hr _ (.inr ⟨hbig,b,v1,v2,rfl,hb.ag k0 (by simp),hb.ag k1 (by simp),k2.ah hb,k3.ah hb⟩)⟩
have HH:=af hsh
clear hsh hf
by_cases hn:f.num<0
·(
have e:s=true:=by rw[hs];exact decide_eq_true hn
subst e
have hr:Hid (false=decide (-f.num<0)):=by show _=_;rw[decide_eq_false];omega
clear hs hn HSg HF
go_enter func126,ntmps126
go_wp2
have hB:=((But.refl [] w).alloc (.cells #[.bool false,.int .u64 x,.int .u64 y,.pointer p] 27)).alloc (.cells #[.bool false,.int .u64 x,.int .u64 y,.pointer p] 27)
exact bodyPost_ret (v:=.agg #[.bool false,.int .u64 x,.int .u64 y,.pointer p]) (by simp[results,results126,go_sem]) rfl ⟨_,rfl,ae HH _ false (ae hr) hB,hB⟩)
·(
have e:s=false:=by rw[hs];exact decide_eq_false hn
subst e
obtain⟨r,hr⟩:∃ r,r=decide (-f.num<0):=⟨_,rfl⟩
obtain⟨z,hz⟩:∃ z,z=f.num.sign:=⟨_,rfl⟩
have hzr:(z != 0)=r:=by
 rw[hr,hz]
 by_cases h0:f.num=0
 ·rw[h0];rfl
 ·have h1:f.num.sign=1:=Int.sign_eq_one_of_pos (by omega)
  rw[h1]
  rw[decide_eq_true (by omega:-f.num<0)]
  rfl
rw[← hz] at HSg
obtain⟨W,hW⟩:∃ W,W=(w.alloc (.cells #[.bool false,.int .u64 x,.int .u64 y,.pointer p] 27)).alloc (.cells #[.bool false,.int .u64 0,.int .u64 0,.pointer none] 27):=⟨_,rfl⟩
have hB:But [] w W:=by rw[hW];exact ((But.refl [] w).alloc _).alloc _
have c0:W.cell? ⟨w.heap.size,0,none⟩=some (.bool false):=by rw[hW];simp
have c1:W.cell? ⟨w.heap.size,1,none⟩=some (.int .u64 x):=by rw[hW];simp
have c2:W.cell? ⟨w.heap.size,2,none⟩=some (.int .u64 y):=by rw[hW];simp
have c3:W.cell? ⟨w.heap.size,3,none⟩=some (.pointer p):=by rw[hW];simp
have d0:W.cell? ⟨w.heap.size+1,0,none⟩=some (.bool false):=by rw[hW];simp
have d1:W.cell? ⟨w.heap.size+1,1,none⟩=some (.int .u64 0):=by rw[hW];simp
have d2:W.cell? ⟨w.heap.size+1,2,none⟩=some (.int .u64 0):=by rw[hW];simp
have d3:W.cell? ⟨w.heap.size+1,3,none⟩=some (.pointer none):=by rw[hW];simp
have fz:∀ b j,w.heap.size≤b→W.frozen? ⟨b,j,none⟩=false:=by
 intro b j hb
 rw[hW]
 rcases Nat.lt_or_ge b (w.heap.size+2) with h1 | h1
 ·have:b=w.heap.size∨b=w.heap.size+1:=by omega
  rcases this with rfl|rfl <;> simp
 ·simp[World.frozen?,Array.getElem?_eq_none (show ((w.alloc (.cells #[.bool false,.int .u64 x,.int .u64 y,.pointer p] 27)).alloc (.cells #[.bool false,.int .u64 0,.int .u64 0,.pointer none] 27)).heap.size≤b by simp;omega)]
have HW:=af hW
have HS2:=af (ae HSg W ((ae HF).but hB))
have HR:=af hr
have HB:=af hB
clear hW hs hn hr hz HSg HF hB
go_enter func126,ntmps126
go_wp2_with fail
rw[← ae HW]
refine (ae HS2).mono ?_
rintro e w1 ⟨rfl,hb1⟩
have k0:=hb1.ag c0 (by simp)
have k1:=hb1.ag c1 (by simp)
have k2:=hb1.ag c2 (by simp)
have k3:=hb1.ag c3 (by simp)
have l0:=hb1.ag d0 (by simp)
have l1:=hb1.ag d1 (by simp)
have l2:=hb1.ag d2 (by simp)
have l3:=hb1.ag d3 (by simp)
have hg1:w.heap.size<W.heap.size:=ai c0
have hg2:w.heap.size+1<W.heap.size:=ai d0
have f1:∀ j,w1.frozen? ⟨w.heap.size,j,none⟩=false:=fun j=>(hb1.frozen (p:=⟨w.heap.size,j,none⟩) hg1 (by simp)).trans (fz _ j (Nat.le_refl _))
have f2:∀ j,w1.frozen? ⟨w.heap.size+1,j,none⟩=false:=fun j=>(hb1.frozen (p:=⟨w.heap.size+1,j,none⟩) hg2 (by simp)).trans (fz _ j (by omega))
have HB1:Hid (But [] w w1):=(ae HB).trans' hb1
clear hb1 c0 c1 c2 c3 d0 d1 d2 d3 fz HW HS2 hg1 hg2
obtain⟨ga,hga⟩:∃ ga,ga=w.heap.size:=⟨_,rfl⟩
obtain⟨gb,hgb⟩:∃ gb,gb=w.heap.size+1:=⟨_,rfl⟩
rw[← hga] at k0 k1 k2 k3 f1
rw[← hgb] at l0 l1 l2 l3 f2
rw[← hgb,← hga]
have hab:ga≠gb:=by omega
have ha:Hid (w.heap.size≤ga):=Nat.le_of_eq hga.symm
have hb:Hid (w.heap.size≤gb):=by show _≤_;omega
clear hga hgb
go_wp2
have hBf:=((((((ae HB1).setCell (p:=⟨ga,0,none⟩) (.inr (ae ha)) (.bool r)).setCell (p:=⟨gb,0,none⟩) (.inr (ae hb)) (.bool r)).setCell (p:=⟨gb,1,none⟩) (.inr (ae hb)) (.int .u64 x)).setCell (p:=⟨gb,2,none⟩) (.inr (ae hb)) (.int .u64 y)).setCell (p:=⟨gb,3,none⟩) (.inr (ae hb)) (.pointer p))
exact bodyPost_ret (v:=.agg #[.bool r,.int .u64 x,.int .u64 y,.pointer p]) (by simp[results,results126,go_sem,l0,l1,l2,l3]) rfl ⟨_,rfl,ae HH _ r (ae HR) hBf,hBf⟩))
def zcb (f:Rat):Nat→Rat
 | 0=>1
 | n+1=>zcb f n*f
theorem zgz (f:Rat):∀ n,(zcb f n).num=f.num^n∧(zcb f n).den=f.den^n
 | 0=>⟨by rw[Int.pow_zero];rfl,by rw[Nat.pow_zero];rfl⟩
 | n+1=>by
  obtain⟨h1,h2⟩:=zgz f n
  have hd:0<f.den:=Nat.pos_of_ne_zero f.den_nz
  have hco:Nat.Coprime f.num.natAbs f.den:=f.reduced
  have hc:=zbx (zcb f n) f
  rw[h1,h2] at hc
  have hq:((zcb f n*f).num*((f.den^(n+1):Nat):Int)=f.num^(n+1)*((zcb f n*f).den:Int)):=by
   rw[Nat.pow_succ,Int.pow_succ]
   exact hc
  exact ig (f.num^(n+1)) (f.den^(n+1)) (Nat.pos_iff_ne_zero.1 (Nat.pow_pos hd)) (by rw[Int.natAbs_pow];exact Nat.Coprime.pow _ _ hco) _ hq
theorem zmq (f:Rat):∀ n,zcb f n=f^n
 | 0=>by rw[Rat.pow_zero];rfl
 | n+1=>by
  rw[Rat.pow_succ,← zmq f n]
  first
   | rfl
   | (show f*zcb f n=zcb f n*f;exact Rat.mul_comm _ _)
end Go.Proofs.YtagmkkiagjmimaaGreatDoor
