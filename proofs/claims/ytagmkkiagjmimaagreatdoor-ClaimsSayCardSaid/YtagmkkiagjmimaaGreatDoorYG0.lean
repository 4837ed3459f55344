/- The greatest common divisor of two words -/
import Derived.Test.YtagmkkiagjmimaaGreatDoorProg
import Derived.WalkKit
import Derived.Deep.QuietTactic
import Derived.BigQuiet
import Derived.Deep.RegionHeld
import Derived.Deep.RegionWith
import Derived.Laws.AppendOwn
import Derived.Test.YtagmkkiagjmimaaGreatDoorYNA
import Derived.Test.YtagmkkiagjmimaaGreatDoorYR0
namespace Go.Proofs.YtagmkkiagjmimaaGreatDoor
set_option linter.unusedVariables false
open Go.Proofs.Tryz
open Go.RowKit
set_option maxHeartbeats 4000000
set_option maxRecDepth 100000
theorem jr (x y:Nat) (w:World) (hx:x<18446744073709551616) (hy:y<18446744073709551616) :
   Calls prog 133 #[.int .u64 x,.int .u64 y] w fun e w'=>e=.returned (.int .u64 (Nat.gcd x y:Nat))∧∃ n,w'=w.drewN n:=by(
 go_enter func133,ntmps133
 go_wp2
 go_loopw [0,1] (fun a b w'=>∃ p q:Nat,a=.int .u64 p∧b=.int .u64 q∧p<18446744073709551616∧q<18446744073709551616∧Hid (Nat.gcd p q=Nat.gcd x y)∧∃ n,w'=w.drewN n) (fun _ b _=>(intOf b).toNat)
 case atStart=>exact⟨x,y,rfl,rfl,hx,hy,(rfl:Nat.gcd x y=Nat.gcd x y),0,rfl⟩
 case round =>(
 obtain⟨p,q,rfl,rfl,hp,hq,hg,n,rfl⟩:=hrel
 by_cases h0:q=0
 ·subst h0
  go_wp2
  go_ret
  exact⟨by rw[← hg.out];simp,n,rfl⟩
 ·(
 have hb:((q:Int)==0)=false:=by simp;exact h0
 have hn:((q:Int) != 0)=true:=by simp;exact h0
 go_wp2
 go_quiet (fail)
 go_roundw
 case rel =>(
 refine⟨_,_,_,_,_,_,_,_,⟨q,p%q,rfl,?_,hq,?_,?_,n+nq,?_⟩,rfl⟩
 ·rw[Int.natCast_emod]
 ·exact Nat.lt_trans (Nat.mod_lt _ (Nat.pos_of_ne_zero h0)) hq
 ·show Nat.gcd q (p%q)=Nat.gcd x y
  rw[← hg.out,Nat.gcd_comm p q,Nat.gcd_rec q p,Nat.gcd_comm]
 ·exact World.drewN_drewN _ _ _)
 case measure =>(
 simp[intOf]
 have:=Nat.mod_lt p (Nat.pos_of_ne_zero h0)
 omega))))
theorem o6 (s:Bool) (p q:Nat) (hq:q<18446744073709551616) (hq0:0<q) (w:World) :
   Calls prog 140 #[.agg #[.bool s,.int .u64 (p:Int),.int .u64 ((q:Int)-1),.pointer none]] w fun e w'=>e=.returned (.int .u64 (q:Int))∧But [] w w':=by(
 go_enter func140,ntmps140
 go_wp2
 go_ret
 exact⟨rfl,(But.refl _ _).alloc _⟩)
theorem zma (x:Int) (h1:-9223372036854775808≤x) (h2:x<9223372036854775808) (w:World) :
   Calls prog 132 #[.int .i64 x] w fun e w'=>e=.returned (.int .u64 (x.natAbs:Nat))∧w'=w:=by(
 by_cases hx:x<0
 ·(
 have e1:IntKind.u64.wrap (-IntKind.u64.wrap x)=((x.natAbs:Nat):Int):=by rw[IntKind.wrap_u64,IntKind.wrap_u64];omega
 obtain⟨n,hn⟩:∃ n:Nat,n=x.natAbs:=⟨_,rfl⟩
 rw[← hn] at e1 ⊢
 clear hn
 go_enter func132,ntmps132
 go_wp2
 go_ret
 exact⟨rfl,rfl⟩)
 ·(
 obtain⟨n,rfl⟩:=Int.eq_ofNat_of_zero_le (Int.not_lt.1 hx)
 rw[Int.natAbs_natCast]
 go_enter func132,ntmps132
 go_wp2
 go_ret
 exact⟨rfl,rfl⟩))
theorem zff (s:Bool) (p q:Nat) (hp:p<18446744073709551616) (hq:q<18446744073709551616) (hq0:0<q) (r:Bool) (hr:Hid (r=(s && decide (p≠0)))) (w:World) :
   Calls prog 134 #[.bool s,.int .u64 (p:Int),.int .u64 (q:Int)] w fun e w'=>e=.returned (.agg #[.bool r,.int .u64 (p:Int),.int .u64 ((q:Int)-1),.pointer none])∧But [] w w':=by(
 have e:((p:Int) != 0)=decide (p≠0):=by rw[Bool.eq_iff_iff];simp
 by_cases h0:p=0
 ·(
 subst h0
 have er:Hid (r=false):=by show _=_;rw[ae hr];simp
 clear hr e
 cases s
 all_goals(
 go_enter func134,ntmps134
 go_wp2
 rw[ae er]
 exact bodyPost_ret (v:=.agg #[.bool false,.int .u64 ((0:Nat):Int),.int .u64 ((q:Int)-1),.pointer none]) (by simp[results,results134,go_sem]) rfl ⟨rfl,(But.refl _ _).alloc _⟩))
 ·(
 have e1:((p:Int) != 0)=true:=by rw[e];simp[h0]
 cases s
 ·(
 have er:Hid (r=false):=by show _=_;rw[ae hr];simp
 clear hr e
 go_enter func134,ntmps134
 go_wp2
 rw[ae er]
 exact bodyPost_ret (v:=.agg #[.bool false,.int .u64 (p:Int),.int .u64 ((q:Int)-1),.pointer none]) (by simp[results,results134,go_sem]) rfl ⟨rfl,(But.refl _ _).alloc _⟩)
 ·(
 have er:Hid (r=true):=by show _=_;rw[ae hr];simp[h0]
 clear hr e
 go_enter func134,ntmps134
 go_wp2
 rw[ae er]
 exact bodyPost_ret (v:=.agg #[.bool true,.int .u64 (p:Int),.int .u64 ((q:Int)-1),.pointer none]) (by simp[results,results134,go_sem]) rfl ⟨rfl,(But.refl _ _).alloc _⟩)))
theorem zwf (x y:Int) (hx1:-9223372036854775808≤x) (hx2:x<9223372036854775808) (hy1:-9223372036854775808≤y) (hy2:y<9223372036854775808) (hy0:y≠0) (w:World) (r:Bool) (p q:Nat) (hr:Hid (r=((decide (x<0) != decide (y<0)) && decide (p≠0)))) (hp:Hid (p=x.natAbs/Nat.gcd x.natAbs y.natAbs)) (hq:Hid (q=y.natAbs/Nat.gcd x.natAbs y.natAbs)) :
   Calls prog 60 #[.int .i64 x,.int .i64 y] w fun e w'=>e=.returned (.tuple #[.agg #[.bool r,.int .u64 (p:Int),.int .u64 ((q:Int)-1),.pointer none],.nilIface])∧But [] w w':=by(
 have n0:(y==0)=false:=by simp;exact hy0
 obtain⟨g,hg⟩:∃ g,g=Nat.gcd x.natAbs y.natAbs:=⟨_,rfl⟩
 have hg0:0<g:=by rw[hg];exact Nat.gcd_pos_of_pos_right _ (by omega)
 have hgl:g≤y.natAbs:=by rw[hg];exact Nat.gcd_le_right _ (by omega)
 have hp':p=x.natAbs/g:=by rw[hg];exact ae hp
 have hq':q=y.natAbs/g:=by rw[hg];exact ae hq
 have hp64:p<18446744073709551616:=by rw[hp'];exact Nat.lt_of_le_of_lt (Nat.div_le_self _ _) (by omega)
 have hq64:q<18446744073709551616:=by rw[hq'];exact Nat.lt_of_le_of_lt (Nat.div_le_self _ _) (by omega)
 have hq0:0<q:=by rw[hq'];exact Nat.div_pos hgl hg0
 have hgz:((g:Int)==0)=false:=by simp;omega
 have hg64:g<18446744073709551616:=by omega
 obtain⟨a,ha⟩:∃ a,a=x.natAbs:=⟨_,rfl⟩
 obtain⟨b,hb⟩:∃ b,b=y.natAbs:=⟨_,rfl⟩
 have ha64:a<18446744073709551616:=by omega
 have hb64:b<18446744073709551616:=by omega
 have d1:(a:Int)/(g:Int)=(p:Int):=by rw[hp',← ha,Int.natCast_ediv]
 have d2:(b:Int)/(g:Int)=(q:Int):=by rw[hq',← hb,Int.natCast_ediv]
 have d3:(a:Int).tdiv (g:Int)=(p:Int):=by rw[Int.tdiv_eq_ediv_of_nonneg (by omega)];exact d1
 have d4:(b:Int).tdiv (g:Int)=(q:Int):=by rw[Int.tdiv_eq_ediv_of_nonneg (by omega)];exact d2
 have d5:IntKind.u64.wrap (p:Int)=(p:Int):=by rw[IntKind.wrap_u64];omega
 have d6:IntKind.u64.wrap (q:Int)=(q:Int):=by rw[IntKind.wrap_u64];omega
 have HA:=af ha
 have HB:=af hb
 have HG:=af hg
 clear hp' hq' ha hb hg hgl
 obtain⟨s1,hs1⟩:∃ s1,s1=decide (x<0):=⟨_,rfl⟩
 go_enter func60,ntmps60
 go_wp2_with fail
 refine (zma x hx1 hx2 _).mono ?_
 rintro e w1 ⟨rfl,hw⟩
 obtain rfl:=hw.symm
 clear hw
 rw[← ae HA]
 go_wp2_with fail
 refine (zma y hy1 hy2 _).mono ?_
 rintro e w1 ⟨rfl,hw⟩
 obtain rfl:=hw.symm
 clear hw
 rw[← ae HB]
 go_wp2_with fail
 refine (jr a b _ ha64 hb64).mono ?_
 rintro e w1 ⟨rfl,k,rfl⟩
 rw[show Nat.gcd a b=g from by rw[ae HA,ae HB,ae HG]]
 go_wp2
 have hb0:But [] w ((w.alloc (.cells #[.bool false,.int .u64 0,.int .u64 0,.pointer none] 27)).drewN k):=((But.refl _ _).alloc _).drewN k
 have c0:((w.alloc (.cells #[.bool false,.int .u64 0,.int .u64 0,.pointer none] 27)).drewN k).cell? ⟨w.heap.size,0,none⟩=some (.bool false):=by simp
 have c1:((w.alloc (.cells #[.bool false,.int .u64 0,.int .u64 0,.pointer none] 27)).drewN k).cell? ⟨w.heap.size,1,none⟩=some (.int .u64 0):=by simp
 have c2:((w.alloc (.cells #[.bool false,.int .u64 0,.int .u64 0,.pointer none] 27)).drewN k).cell? ⟨w.heap.size,2,none⟩=some (.int .u64 0):=by simp
 have c3:((w.alloc (.cells #[.bool false,.int .u64 0,.int .u64 0,.pointer none] 27)).drewN k).cell? ⟨w.heap.size,3,none⟩=some (.pointer none):=by simp
 have hf:∀ j,((w.alloc (.cells #[.bool false,.int .u64 0,.int .u64 0,.pointer none] 27)).drewN k).frozen? ⟨w.heap.size,j,none⟩=false:=by intro j;simp
 have hsz:w.heap.size<((w.alloc (.cells #[.bool false,.int .u64 0,.int .u64 0,.pointer none] 27)).drewN k).heap.size:=by simp
 generalize (w.alloc (.cells #[.bool false,.int .u64 0,.int .u64 0,.pointer none] 27)).drewN k=W at *
 obtain⟨gb,hgb⟩:∃ gb,gb=w.heap.size:=⟨_,rfl⟩
 rw[← hgb] at c0 c1 c2 c3 hf hsz
 rw[← hgb]
 have HGB:=af hgb
 clear hgb
 go_region_with (go_at_call 134;refine (zff (decide (x<0) != decide (y<0)) p q hp64 hq64 hq0 r hr _).mono ?_;rintro e w1 ⟨rfl,hb1⟩;have B1:But [] W w1:=(by first | exact hb1 | exact (But.refl _ _).drew.trans' hb1);have k0:=B1.ag c0 (by simp);have k1:=B1.ag c1 (by simp);have k2:=B1.ag c2 (by simp);have k3:=B1.ag c3 (by simp);have f0:=(B1.frozen (p:=⟨gb,0,none⟩) hsz (by simp)).trans (hf 0);have f1:=(B1.frozen (p:=⟨gb,1,none⟩) hsz (by simp)).trans (hf 1);have f2:=(B1.frozen (p:=⟨gb,2,none⟩) hsz (by simp)).trans (hf 2);have f3:=(B1.frozen (p:=⟨gb,3,none⟩) hsz (by simp)).trans (hf 3))
 all_goals go_wp2
 all_goals
  have hge:w.heap.size≤gb:=Nat.le_of_eq (ae HGB).symm
  exact bodyPost_ret (v:=.tuple #[.agg #[.bool r,.int .u64 (p:Int),.int .u64 ((q:Int)-1),.pointer none],.nilIface]) (by simp[results,results60,go_sem,k0,k1,k2,k3]) rfl ⟨rfl,(((((hb0.trans' B1).setCell (.inr hge) _).setCell (.inr hge) _).setCell (.inr hge) _).setCell (.inr hge) _)⟩)
theorem zbx (n:Int) (d:Nat) (hd:d≠0) (hc:n.natAbs.Coprime d) (q:Rat) (h:q.num*d=n*q.den):q.num=n∧q.den=d:=by(
 have e:q=⟨n,d,hd,hc⟩:=by
  rw[Rat.mk_eq_mkRat,← Rat.mkRat_self q,Rat.mkRat_eq_iff q.den_nz hd]
  exact h
 rw[e]
 exact⟨rfl,rfl⟩)
def sgn (s:Bool) (m:Nat):Int:=if s then -(m:Int) else (m:Int)
theorem yg (s:Bool) (m:Nat):(sgn s m).natAbs=m:=by cases s <;> simp[sgn]
theorem zbh (s:Bool) (m k:Nat):sgn s (m*k)=sgn s m*k:=by cases s <;> simp[sgn,Int.neg_mul]
theorem zjr (f g:Rat):(f+g).num*(f.den*g.den:Nat)=(f.num*g.den+g.num*f.den)*(f+g).den:=by(
 have h:=Rat.add_def' f g
 rw[← Rat.mkRat_self (f+g),Rat.mkRat_eq_iff (f+g).den_nz (Nat.mul_ne_zero f.den_nz g.den_nz)] at h
 exact h)
theorem zdo (f g:Rat):(f*g).num*(f.den*g.den:Nat)=(f.num*g.num)*(f*g).den:=by(
 have h:=Rat.mul_def' f g
 rw[← Rat.mkRat_self (f*g),Rat.mkRat_eq_iff (f*g).den_nz (Nat.mul_ne_zero f.den_nz g.den_nz)] at h
 exact h)
theorem zyk (a c:Int) (b b' d':Nat) (hab:a.natAbs.Coprime b) (hb:b' ∣ b) (hbd:b'.Coprime d'):(a*d' + c*b').natAbs.Coprime b':=by(
 rw[Nat.Coprime]
 have hp1:Nat.gcd (a*d' + c*b').natAbs b' ∣ b':=Nat.gcd_dvd_right _ _
 have hp2:Nat.gcd (a*d' + c*b').natAbs b' ∣ (a*d' + c*b').natAbs:=Nat.gcd_dvd_left _ _
 generalize Nat.gcd (a*d' + c*b').natAbs b'=p at *
 have h1:(p:Int) ∣ a*d' + c*b':=Int.ofNat_dvd_left.2 hp2
 have h2:(p:Int) ∣ c*b':=Int.dvd_mul_of_dvd_right (Int.natCast_dvd_natCast.2 hp1)
 have h3:(p:Int) ∣ a*d':=(Int.dvd_add_left h2).1 h1
 have h4:p ∣ a.natAbs*d':=by
  have:=Int.ofNat_dvd_left.1 h3
  rwa [Int.natAbs_mul,Int.natAbs_natCast] at this
 have h5:p.Coprime a.natAbs:=Nat.Coprime.coprime_dvd_left (Nat.dvd_trans hp1 hb) hab.symm
 have h6:p ∣ d':=h5.dvd_of_dvd_mul_left h4
 have h7:p ∣ Nat.gcd b' d':=Nat.dvd_gcd hp1 h6
 rw[hbd] at h7
 exact Nat.dvd_one.1 h7)
theorem zre (f g:Rat) (s:Bool) (M k m:Nat) (hk:k=Nat.gcd f.den g.den) (hm:m=Nat.gcd M k) (hN:f.num*(g.den/k:Nat)+g.num*(f.den/k:Nat)=sgn s M):(f+g).num=sgn s (M/m)∧(f+g).den=(f.den/k)*(g.den/m):=by(
 have hb0:0<f.den:=Nat.pos_of_ne_zero f.den_nz
 have hd0:0<g.den:=Nat.pos_of_ne_zero g.den_nz
 have hk0:0<k:=by rw[hk];exact Nat.gcd_pos_of_pos_left _ hb0
 have kb:k ∣ f.den:=by rw[hk];exact Nat.gcd_dvd_left _ _
 have kd:k ∣ g.den:=by rw[hk];exact Nat.gcd_dvd_right _ _
 have hcop:(f.den/k).Coprime (g.den/k):=by rw[hk];exact Nat.coprime_div_gcd_div_gcd (by rw[← hk];exact hk0)
 have hm0:0<m:=by rw[hm];exact Nat.gcd_pos_of_pos_right _ hk0
 have mk:m ∣ k:=by rw[hm];exact Nat.gcd_dvd_right _ _
 have mM:m ∣ M:=by rw[hm];exact Nat.gcd_dvd_left _ _
 have c1:M.Coprime (f.den/k):=by
  have:=zyk f.num g.num f.den (f.den/k) (g.den/k) f.reduced (Nat.div_dvd_of_dvd kb) hcop
  rwa [hN,yg] at this
 have c2:M.Coprime (g.den/k):=by
  have:=zyk g.num f.num g.den (g.den/k) (f.den/k) g.reduced (Nat.div_dvd_of_dvd kd) hcop.symm
  rw[Int.add_comm] at this
  rwa [hN,yg] at this
 have c3:(M/m).Coprime (k/m):=by rw[hm];exact Nat.coprime_div_gcd_div_gcd (by rw[← hm];exact hm0)
 obtain⟨b',hb'⟩:=kb
 obtain⟨d',hd'⟩:=kd
 obtain⟨k',hk'⟩:=mk
 obtain⟨M',hM'⟩:=mM
 have e1:f.den/k=b':=by rw[hb',Nat.mul_div_cancel_left _ hk0]
 have e2:g.den/k=d':=by rw[hd',Nat.mul_div_cancel_left _ hk0]
 have e3:k/m=k':=by rw[hk',Nat.mul_div_cancel_left _ hm0]
 have e4:M/m=M':=by rw[hM',Nat.mul_div_cancel_left _ hm0]
 have e5:g.den/m=k' * d':=by rw[hd',hk',Nat.mul_assoc,Nat.mul_div_cancel_left _ hm0]
 rw[e1,e2] at hN
 rw[e1] at c1
 rw[e2] at c2
 rw[e3,e4] at c3
 rw[e1,e4,e5]
 have c1':M'.Coprime b':=Nat.Coprime.coprime_dvd_left ⟨m,by rw[hM',Nat.mul_comm]⟩ c1
 have c2':M'.Coprime d':=Nat.Coprime.coprime_dvd_left ⟨m,by rw[hM',Nat.mul_comm]⟩ c2
 have hb1:b'≠0:=by rintro rfl;rw[Nat.mul_zero] at hb';omega
 have hd1:d'≠0:=by rintro rfl;rw[Nat.mul_zero] at hd';omega
 have hk1:k'≠0:=by rintro rfl;rw[Nat.mul_zero] at hk';omega
 refine zbx _ _ (Nat.mul_ne_zero hb1 (Nat.mul_ne_zero hk1 hd1)) (by rw[yg];exact c1'.mul_right (c3.mul_right c2')) _ ?_
 have hx:=zjr f g
 generalize (f+g).num=n at *
 generalize (f+g).den=e at *
 have hs:sgn s M=sgn s M' * m:=by rw[hM',Nat.mul_comm,zbh]
 rw[hs] at hN
 rw[hb',hd',hk'] at hx
 have hmz:(m:Int)≠0:=by omega
 have hkz:(k':Int)≠0:=by omega
 have hx2:(n*((b' * (k' * d'):Nat):Int))*(m*m*k')=(sgn s M' * e)*(m*m*k'):=by
  have h5:(f.num*(d':Int)+g.num*b')*(m*k')*e*m=sgn s M' * m*(m*k')*e*m:=by rw[hN]
  simp only[Int.natCast_mul] at hx ⊢
  grind
 exact Int.eq_of_mul_eq_mul_right (Int.mul_ne_zero (Int.mul_ne_zero hmz hmz) hkz) hx2)
theorem zgb (f:Rat):f.num=sgn (decide (f.num<0)) f.num.natAbs:=by(
 unfold sgn
 by_cases h:f.num<0
 ·simp only[h,decide_true,if_true];omega
 ·simp only[h,decide_false,Bool.false_eq_true,if_false];omega)
theorem zqj (f g:Rat) (p q:Nat) (hp:p=Nat.gcd f.num.natAbs g.den) (hq:q=Nat.gcd g.num.natAbs f.den):(f*g).num=sgn (decide (f.num<0) != decide (g.num<0)) (f.num.natAbs/p*(g.num.natAbs/q))∧(f*g).den=(f.den/q)*(g.den/p):=by(
 have hb0:0<f.den:=Nat.pos_of_ne_zero f.den_nz
 have hd0:0<g.den:=Nat.pos_of_ne_zero g.den_nz
 have hp0:0<p:=by rw[hp];exact Nat.gcd_pos_of_pos_right _ hd0
 have hq0:0<q:=by rw[hq];exact Nat.gcd_pos_of_pos_right _ hb0
 have pa:p ∣ f.num.natAbs:=by rw[hp];exact Nat.gcd_dvd_left _ _
 have pd:p ∣ g.den:=by rw[hp];exact Nat.gcd_dvd_right _ _
 have qc:q ∣ g.num.natAbs:=by rw[hq];exact Nat.gcd_dvd_left _ _
 have qb:q ∣ f.den:=by rw[hq];exact Nat.gcd_dvd_right _ _
 have c1:(f.num.natAbs/p).Coprime (g.den/p):=by rw[hp];exact Nat.coprime_div_gcd_div_gcd (by rw[← hp];exact hp0)
 have c2:(g.num.natAbs/q).Coprime (f.den/q):=by rw[hq];exact Nat.coprime_div_gcd_div_gcd (by rw[← hq];exact hq0)
 have c3:(f.num.natAbs/p).Coprime (f.den/q):=Nat.Coprime.coprime_dvd_left (Nat.div_dvd_of_dvd pa) (Nat.Coprime.coprime_dvd_right (Nat.div_dvd_of_dvd qb) f.reduced)
 have c4:(g.num.natAbs/q).Coprime (g.den/p):=Nat.Coprime.coprime_dvd_left (Nat.div_dvd_of_dvd qc) (Nat.Coprime.coprime_dvd_right (Nat.div_dvd_of_dvd pd) g.reduced)
 have hx:=zdo f g
 rw[zgb f,zgb g] at hx
 generalize decide (f.num<0)=s at *
 generalize decide (g.num<0)=t at *
 have nz1:f.den/q≠0:=Nat.ne_of_gt (Nat.div_pos (Nat.le_of_dvd hb0 qb) hq0)
 have nz2:g.den/p≠0:=Nat.ne_of_gt (Nat.div_pos (Nat.le_of_dvd hd0 pd) hp0)
 refine zbx _ _ (Nat.mul_ne_zero nz1 nz2) (by rw[yg];exact (c3.mul_right c1).mul_left (c2.mul_right c4)) _ ?_
 obtain⟨a',ha⟩:=pa
 obtain⟨d',hd⟩:=pd
 obtain⟨c',hc⟩:=qc
 obtain⟨b',hb⟩:=qb
 rw[ha,hc,hb,hd] at hx
 rw[ha,hc,hb,hd,Nat.mul_div_cancel_left _ hp0,Nat.mul_div_cancel_left _ hq0,Nat.mul_div_cancel_left _ hq0,Nat.mul_div_cancel_left _ hp0]
 generalize (f*g).num=n at *
 generalize (f*g).den=e at *
 have hpz:(p:Int)≠0:=by omega
 have hqz:(q:Int)≠0:=by omega
 refine Int.eq_of_mul_eq_mul_right (a:=(p*q:Int)) (Int.mul_ne_zero hpz hqz) ?_
 cases s <;> cases t <;> simp only[sgn,Int.natCast_mul,bne_self_eq_false,Bool.false_eq_true,if_false,if_true,Bool.not_false,Bool.bne_false,Bool.bne_true] at hx ⊢ <;> grind)
def aq (w:World) (v:Value) (f:Rat):Prop :=
 (f.num.natAbs < 18446744073709551616∧f.den < 18446744073709551616∧v=.agg #[.bool (decide (f.num<0)),.int .u64 (f.num.natAbs:Int),.int .u64 ((f.den:Int)-1),.pointer none]) ∨
 ((18446744073709551616≤f.num.natAbs∨18446744073709551616≤f.den)∧∃ b v1 v2,v=.agg #[.bool (decide (f.num<0)),.int .u64 0,.int .u64 0,.pointer (some ⟨b,0,none⟩)]∧w.cell? ⟨b,0,none⟩=some v1∧w.cell? ⟨b,1,none⟩=some v2∧Sl .u64 w v1 (wd 18446744073709551616 f.num.natAbs)∧Sl .u64 w v2 (wd 18446744073709551616 f.den))
theorem aq.but {w w':World} {v:Value} {f:Rat} (h:aq w v f) (hb:But [] w w'):aq w' v f:=by(
 rcases h with h|⟨h1,b,v1,v2,h2,h3,h4,h5,h6⟩
 ·exact .inl h
 ·exact .inr ⟨h1,b,v1,v2,h2,hb.ag h3 (by simp),hb.ag h4 (by simp),h5.ah hb,h6.ah hb⟩)
theorem aq.over {w W:World} {v:Value} {f:Rat} (h:aq w v f) {g:Nat} {s:Bool} (c0:w.cell? ⟨g,0,none⟩=some (.bool s)) (hb:But [g] w W):aq W v f:=by(
 rcases h with h1|⟨h1,b,v1,v2,h2,h3,h4,h5,h6⟩
 ·exact .inl h1
 ·(
 have hbg:b≠g:=by
  rintro rfl
  obtain⟨a,cap,rfl,-⟩:=h5
  rw[c0] at h3
  simp at h3
 exact .inr ⟨h1,b,v1,v2,h2,hb.ag h3 (by simpa using hbg),hb.ag h4 (by simpa using hbg),h5.over hb c0 (by simp),h6.over hb c0 (by simp)⟩))
def Len (f:Rat) (n:Nat):Prop:=(wd 18446744073709551616 f.num.natAbs).length≤n∧(wd 18446744073709551616 f.den).length≤n
theorem den_pos (f:Rat):0<f.den:=Nat.pos_of_ne_zero f.den_nz
theorem l6 (v:Value) (f:Rat) (w:World) (hf:aq w v f) :
   Calls prog 62 #[v] w fun e w'=>∃ v1 v2,e=.returned (.tuple #[v1,v2])∧Sl .u64 w' v1 (wd 18446744073709551616 f.num.natAbs)∧Sl .u64 w' v2 (wd 18446744073709551616 f.den)∧But [] w w':=by(
 rcases hf with ⟨hp,hq,rfl⟩|⟨-,b,v1,v2,rfl,hc0,hc1,hs1,hs2⟩
 ·(
 have hq0:=den_pos f
 generalize decide (f.num<0)=s
 generalize f.num.natAbs=p at *
 generalize f.den=q at *
 go_enter func62,ntmps62
 go_wp2
 obtain⟨W,hW⟩:∃ W,W=w.alloc (.cells #[.bool s,.int .u64 (p:Int),.int .u64 ((q:Int)-1),.pointer none] 27):=⟨_,rfl⟩
 have c0:W.cell? ⟨w.heap.size,0,none⟩=some (.bool s):=by rw[hW];simp
 have c1:W.cell? ⟨w.heap.size,1,none⟩=some (.int .u64 (p:Int)):=by rw[hW];simp
 have c2:W.cell? ⟨w.heap.size,2,none⟩=some (.int .u64 ((q:Int)-1)):=by rw[hW];simp
 have c3:W.cell? ⟨w.heap.size,3,none⟩=some (.pointer none):=by rw[hW];simp
 have hB:But [] w W:=by rw[hW];exact (But.refl _ _).alloc _
 rw[← hW]
 clear hW
 generalize w.heap.size=g at *
 go_region_held (fun w'=>w'.cell? ⟨g,0,none⟩=some (.bool s)∧w'.cell? ⟨g,1,none⟩=some (.int .u64 (p:Int))∧w'.cell? ⟨g,2,none⟩=some (.int .u64 ((q:Int)-1))∧w'.cell? ⟨g,3,none⟩=some (.pointer none)) (go_keep) (first
  | (go_at_call_of 139 (Value.int IntKind.u64 (p:Int));refine (rf p hp _).mono ?_;rintro e w1 ⟨v1,rfl,hv1,hb1,-⟩;have B1:But [] W w1:=(by first | exact hb1 | exact (But.refl _ _).drew.trans' hb1);have k0:=B1.ag c0 (by simp);have k1:=B1.ag c1 (by simp);have k2:=B1.ag c2 (by simp);have k3:=B1.ag c3 (by simp))
  | (go_at_call 140;refine (o6 s p q hq hq0 _).mono ?_;rintro e w2 ⟨rfl,hb2⟩;have B2:But [] W w2:=B1.trans' hb2;have l0:=B2.ag c0 (by simp);have l1:=B2.ag c1 (by simp);have l2:=B2.ag c2 (by simp);have l3:=B2.ag c3 (by simp))
  | (go_at_call_of 139 (Value.int IntKind.u64 (q:Int));refine (rf q hq _).mono ?_;rintro e w3 ⟨v3,rfl,hv3,hb3,-⟩;have B3:But [] W w3:=B2.trans' hb3;have m0:=B3.ag c0 (by simp);have m1:=B3.ag c1 (by simp);have m2:=B3.ag c2 (by simp);have m3:=B3.ag c3 (by simp)))
 all_goals go_wp2
 all_goals go_ret2
 all_goals exact⟨v1,v3,rfl,(hv1.ah hb2).ah hb3,hv3,hB.trans' B3⟩)
 ·(
 have hbl:b<w.heap.size:=ai hc0
 have HS:=af (And.intro hs1 hs2)
 clear hs1 hs2
 generalize decide (f.num<0)=s
 go_enter func62,ntmps62
 go_wp2
 obtain⟨W,hW⟩:∃ W,W=w.alloc (.cells #[.bool s,.int .u64 0,.int .u64 0,.pointer (some ⟨b,0,none⟩)] 27):=⟨_,rfl⟩
 have HB:Hid (But [] w W):=by show But _ _ _;rw[hW];exact (But.refl _ _).alloc _
 have c3:W.cell? ⟨w.heap.size,3,none⟩=some (.pointer (some ⟨b,0,none⟩)):=by rw[hW];simp
 have d0:=(ae HB).ag hc0 (by simp)
 have d1:=(ae HB).ag hc1 (by simp)
 rw[← hW]
 clear hW hc0 hc1
 generalize w.heap.size=g at *
 go_quiet (fail)
 go_wp2
 go_ret2
 exact⟨v1,v2,rfl,(ae HS).1.ah ((ae HB).drewN nq),(ae HS).2.ah ((ae HB).drewN nq),(ae HB).drewN nq⟩))
theorem zfw (s:Bool) (m:Nat):decide (sgn s m<0)=(s && decide (m≠0)):=by(
 cases s
 ·have h1:¬ ((m:Int)<0):=by omega
  simp[sgn,h1]
 ·(
 by_cases h0:m=0
 ·subst h0;rfl
 ·have h1:-(m:Int)<0:=by omega
  have h2:0<m:=by omega
  simp[sgn,h0,h2]))
theorem zgj (s:Bool) (v1 v2:Value) (f:Rat) (w:World) (h1:Sl .u64 w v1 (wd 18446744073709551616 f.num.natAbs)) (h2:Sl .u64 w v2 (wd 18446744073709551616 f.den)) (hs:f.num=sgn s f.num.natAbs) (hl1:(wd 18446744073709551616 f.num.natAbs).length<2147483648) (hl2:(wd 18446744073709551616 f.den).length<2147483648) :
   Calls prog 169 #[.bool s,v1,v2] w fun e w'=>∃ v,e=.returned v∧aq w' v f∧But [] w w':=by(
 have hsg:decide (f.num<0)=(s && decide (f.num.natAbs≠0)):=by rw[hs,yg];exact zfw _ _
 have hq0:=den_pos f
 have hle0:w.heap.size≤w.heap.size:=Nat.le_refl _
 obtain⟨W0,hW0⟩:∃ W0,W0=w.alloc (.cells #[.bool false,.int .u64 0,.int .u64 0,.pointer none] 27):=⟨_,rfl⟩
 have hB0:But [] w W0:=by rw[hW0];exact (But.refl _ _).alloc _
 have c0:W0.cell? ⟨w.heap.size,0,none⟩=some (.bool false):=by rw[hW0];simp
 have c1:W0.cell? ⟨w.heap.size,1,none⟩=some (.int .u64 0):=by rw[hW0];simp
 have c2:W0.cell? ⟨w.heap.size,2,none⟩=some (.int .u64 0):=by rw[hW0];simp
 have c3:W0.cell? ⟨w.heap.size,3,none⟩=some (.pointer none):=by rw[hW0];simp
 have fz:∀ j,W0.frozen? ⟨w.heap.size,j,none⟩=false:=by intro j;rw[hW0];simp
 have hgs:w.heap.size<W0.heap.size:=by rw[hW0];simp
 have h1':=h1.ah hB0
 have h2':=h2.ah hB0
 have HW0:=af hW0
 have HB0:=af hB0
 clear hW0 hB0 hle0
 by_cases hb:f.num.natAbs < 18446744073709551616∧f.den < 18446744073709551616
 ·(
 obtain⟨hp,hq⟩:=hb
 have HW1:=af (zav v1 f.num.natAbs hp W0 h1')
 have HW2:=af (zav v2 f.den hq W0 h2')
 have HO:=af (zff s f.num.natAbs f.den hp hq hq0 (decide (f.num<0)) hsg W0)
 have FIN:Hid (∀ W,aq W (.agg #[.bool (decide (f.num<0)),.int .u64 (f.num.natAbs:Int),.int .u64 ((f.den:Int)-1),.pointer none]) f):=fun W=>.inl ⟨hp,hq,rfl⟩
 obtain⟨a1,d1,rfl,-,-⟩:=h1
 obtain⟨a2,d2,rfl,-,-⟩:=h2
 clear hs hsg h1' h2'
 generalize (wd 18446744073709551616 f.num.natAbs).length=n1 at *
 generalize (wd 18446744073709551616 f.den).length=n2 at *
 generalize decide (f.num<0)=r at *
 generalize f.num.natAbs=p at *
 generalize hqq:f.den=q at *
 clear hqq
 go_enter func169,ntmps169
 go_wp2_with fail
 rw[← ae HW0]
 obtain⟨g,hg⟩:∃ g,g=w.heap.size:=⟨_,rfl⟩
 rw[← hg] at c0 c1 c2 c3 fz hgs
 rw[← hg]
 have HG:Hid (w.heap.size≤g):=Nat.le_of_eq hg.symm
 clear hg HW0
 refine (ae HW1).mono ?_
 rintro e w1 ⟨rfl,hw⟩
 obtain rfl:=hw.symm
 clear hw
 go_wp2_with fail
 refine (ae HW2).mono ?_
 rintro e w1 ⟨rfl,hw⟩
 obtain rfl:=hw.symm
 clear hw
 go_wp2_with fail
 refine (ae HO).mono ?_
 rintro e w1 ⟨rfl,hb1⟩
 have k0:=hb1.ag c0 (by simp)
 have k1:=hb1.ag c1 (by simp)
 have k2:=hb1.ag c2 (by simp)
 have k3:=hb1.ag c3 (by simp)
 have kf:∀ j,w1.frozen? ⟨g,j,none⟩=false:=fun j=>(hb1.frozen (p:=⟨g,j,none⟩) hgs (by simp)).trans (fz j)
 have HB1:=af ((ae HB0).trans' hb1)
 clear hb1 c0 c1 c2 c3 fz
 go_wp2
 refine bodyPost_ret (v:=.agg #[.bool r,.int .u64 (p:Int),.int .u64 ((q:Int)-1),.pointer none]) (by simp[results,results169,go_sem,k0,k1,k2,k3]) rfl ⟨_,rfl,ae FIN _,?_⟩
 exact ((((ae HB1).setCell (.inr (ae HG)) _).setCell (.inr (ae HG)) _).setCell (.inr (ae HG)) _).setCell (.inr (ae HG)) _)
 ·(
 have hbig:18446744073709551616≤f.num.natAbs∨18446744073709551616≤f.den:=by omega
 have hr:decide (f.num<0)=s:=by
  rw[hsg]
  have hn0:f.num.natAbs≠0:=by
   intro e0
   have e1:=f.reduced
   rw[e0,Nat.coprime_zero_left] at e1
   omega
  simp[hn0]
 have H1:=af h1
 have H2:=af h2
 have HWS:Hid ((f.num.natAbs < 18446744073709551616∧Calls prog 141 #[v1] W0 (fun e w'=>e=.returned (.tuple #[.int .u64 (f.num.natAbs:Int),.bool true])∧w'=W0)∧Calls prog 141 #[v2] W0 (fun e w'=>e=.returned (.tuple #[.int .u64 0,.bool false])∧w'=W0))∨(∃ (x:Nat) (t:Bool),Calls prog 141 #[v1] W0 (fun e w'=>e=.returned (.tuple #[.int .u64 0,.bool false])∧w'=W0)∧Calls prog 141 #[v2] W0 (fun e w'=>e=.returned (.tuple #[.int .u64 (x:Int),.bool t])∧w'=W0))):=by
  rcases Nat.lt_or_ge f.num.natAbs 18446744073709551616 with hp | hp
  ·exact .inl ⟨hp,zav v1 _ hp W0 h1',ut v2 _ (by omega) W0 h2' hl2⟩
  ·rcases Nat.lt_or_ge f.den 18446744073709551616 with hq | hq
   ·exact .inr ⟨f.den,true,ut v1 _ hp W0 h1' hl1,zav v2 _ hq W0 h2'⟩
   ·exact .inr ⟨0,false,ut v1 _ hp W0 h1' hl1,ut v2 _ hq W0 h2' hl2⟩
 obtain⟨a1,d1,rfl,-,-⟩:=h1
 obtain⟨a2,d2,rfl,-,-⟩:=h2
 have FIN:Hid (∀ W b v1 v2,W.cell? ⟨b,0,none⟩=some v1→W.cell? ⟨b,1,none⟩=some v2→Sl .u64 W v1 (wd 18446744073709551616 f.num.natAbs)→Sl .u64 W v2 (wd 18446744073709551616 f.den)→aq W (.agg #[.bool s,.int .u64 0,.int .u64 0,.pointer (some ⟨b,0,none⟩)]) f):=fun W b v1 v2 e1 e2 e3 e4=>.inr ⟨hbig,b,v1,v2,by rw[hr],e1,e2,e3,e4⟩
 clear hs hsg h1' h2' hr hb hbig
 generalize (wd 18446744073709551616 f.num.natAbs).length=n1 at *
 generalize (wd 18446744073709551616 f.den).length=n2 at *
 rcases ae HWS with ⟨-,w1c,w2c⟩|⟨x,t,w1c,w2c⟩
 all_goals(
 have HW1:=af w1c
 have HW2:=af w2c
 clear w1c w2c HWS
 go_enter func169,ntmps169
 go_wp2_with fail
 rw[← ae HW0]
 obtain⟨g,hg⟩:∃ g,g=w.heap.size:=⟨_,rfl⟩
 rw[← hg] at c0 c1 c2 c3 fz hgs
 rw[← hg]
 have HG:Hid (w.heap.size≤g):=Nat.le_of_eq hg.symm
 clear hg HW0
 refine (ae HW1).mono ?_
 rintro e w1 ⟨rfl,hw⟩
 obtain rfl:=hw.symm
 clear hw
 go_wp2_with fail
 refine (ae HW2).mono ?_
 rintro e w1 ⟨rfl,hw⟩
 obtain rfl:=hw.symm
 clear hw
 go_wp2
 have hBf:=(((((ae HB0).setCell (p:=⟨g,0,none⟩) (.inr (ae HG)) (.bool s)).setCell (p:=⟨g,1,none⟩) (.inr (ae HG)) (.int .u64 0)).setCell (p:=⟨g,2,none⟩) (.inr (ae HG)) (.int .u64 0)).setCell (p:=⟨g,3,none⟩) (.inr (ae HG)) (.pointer (some ⟨W0.heap.size,0,none⟩))).alloc (.cells #[.slice a1 n1 d1,.slice a2 n2 d2] 179)
 refine bodyPost_ret (v:=.agg #[.bool s,.int .u64 0,.int .u64 0,.pointer (some ⟨W0.heap.size,0,none⟩)]) (by simp[results,results169,go_sem,c0,c1,c2,c3,hgs]) rfl ⟨_,rfl,ae FIN _ W0.heap.size (.slice a1 n1 d1) (.slice a2 n2 d2) ?_ ?_ ((ae H1).ah hBf) ((ae H2).ah hBf),hBf⟩
 ·have:=World.cell?_alloc_new ((((W0.setCell ⟨g,0,none⟩ (.bool s)).setCell ⟨g,1,none⟩ (.int .u64 0)).setCell ⟨g,2,none⟩ (.int .u64 0)).setCell ⟨g,3,none⟩ (.pointer (some ⟨W0.heap.size,0,none⟩))) #[.slice a1 n1 d1,.slice a2 n2 d2] 179 0
  simpa using this
 ·have:=World.cell?_alloc_new ((((W0.setCell ⟨g,0,none⟩ (.bool s)).setCell ⟨g,1,none⟩ (.int .u64 0)).setCell ⟨g,2,none⟩ (.int .u64 0)).setCell ⟨g,3,none⟩ (.pointer (some ⟨W0.heap.size,0,none⟩))) #[.slice a1 n1 d1,.slice a2 n2 d2] 179 1
  simpa using this)))
def P4o (w:World) (b o:Nat) (s:Bool) (x y:Int) (p:Option Addr):Prop:=w.cell? ⟨b,o,none⟩=some (.bool s)∧w.cell? ⟨b,o+1,none⟩=some (.int .u64 x)∧w.cell? ⟨b,o+2,none⟩=some (.int .u64 y)∧w.cell? ⟨b,o+3,none⟩=some (.pointer p)
theorem P4o.but {w w':World} {b o:Nat} {s:Bool} {x y:Int} {p:Option Addr} {l:List Nat} (h:P4o w b o s x y p) (hb:But l w w') (hn:b ∉ l):P4o w' b o s x y p:=⟨hb.ag h.1 hn,hb.ag h.2.1 hn,hb.ag h.2.2.1 hn,hb.ag h.2.2.2 hn⟩
def zgw (w:World) (b o:Nat) (f:Rat):Prop:=∃ s x y p,P4o w b o s x y p∧aq w (.agg #[.bool s,.int .u64 x,.int .u64 y,.pointer p]) f
theorem zgw.but {w w':World} {b o:Nat} {f:Rat} (h:zgw w b o f) (hb:But [] w w'):zgw w' b o f:=by
 obtain⟨s,x,y,p,h1,h2⟩:=h
 exact⟨s,x,y,p,h1.but hb (by simp),h2.but hb⟩
theorem Sl.beside {k:IntKind} {w w':World} {v:Value} {xs:List Nat} {l:List Nat} (h:Sl k w v xs) (hb:But l w w') (hc:∀ g ∈ l,∃ i s,w.cell? ⟨g,i,none⟩=some (.bool s)):Sl k w' v xs:=by(
 obtain⟨a,cap,rfl,hcp,h,hi⟩:=h
 rcases Nat.eq_zero_or_pos xs.length with h0 | h0
 ·exact⟨a,cap,rfl,hcp,fun i hi=>by omega,fun b off e h1=>by omega⟩
 ·(
 refine Sl.but (xs:=xs) ⟨a,cap,rfl,hcp,h,hi⟩ hb (fun b off cap' n e hm=>?_)
 simp only[Value.slice.injEq] at e
 obtain⟨rfl,-,-⟩:=e
 obtain⟨i,s,hs⟩:=hc b hm
 exact (hi _ _ rfl h0).ne hs (by simp) rfl))
theorem aq.beside {w W:World} {v:Value} {f:Rat} {l:List Nat} (h:aq w v f) (hb:But l w W) (hc:∀ g ∈ l,∃ s,w.cell? ⟨g,0,none⟩=some (.bool s)):aq W v f:=by(
 rcases h with h1|⟨h1,b,v1,v2,h2,h3,h4,h5,h6⟩
 ·exact .inl h1
 ·(
 have hbg:b ∉ l:=fun hm=>by
  obtain⟨s,hs⟩:=hc b hm
  obtain⟨a,cap,rfl,-⟩:=h5
  rw[hs] at h3
  simp at h3
 exact .inr ⟨h1,b,v1,v2,h2,hb.ag h3 hbg,hb.ag h4 hbg,h5.beside hb (fun g hg=>⟨0,hc g hg⟩),h6.beside hb (fun g hg=>⟨0,hc g hg⟩)⟩))
def au (w:World) (v:Value) (fs:List Rat):Prop:=∃ a cap,v=.slice a fs.length cap∧fs.length≤cap∧∀ i f,fs[i]? = some f→∃ b off,a=some ⟨b,off,none⟩∧zgw w b (off+i*4) f
theorem au.nil (w:World):au w (.slice none 0 0) []:=⟨none,0,rfl,Nat.le_refl _,fun i f h=>by simp at h⟩
theorem au.but {w w':World} {v:Value} {fs:List Rat} (h:au w v fs) (hb:But [] w w'):au w' v fs:=by(
 obtain⟨a,cap,e,hc,h⟩:=h
 refine⟨a,cap,e,hc,fun i f hf=>?_⟩
 obtain⟨b,off,e1,h1⟩:=h i f hf
 exact⟨b,off,e1,h1.but hb⟩)
theorem au.open {w:World} {v:Value} {fs:List Rat} (h:au w v fs) :
   (fs=[]∧∃ a cap,v=.slice a 0 cap)∨(0<fs.length∧∃ b off cap,v=.slice (some ⟨b,off,none⟩) fs.length cap∧fs.length≤cap∧∀ i f,fs[i]? = some f→zgw w b (off+i*4) f):=by(
 obtain⟨a,cap,rfl,hc,h⟩:=h
 rcases Nat.eq_zero_or_pos fs.length with h0 | h0
 ·exact .inl ⟨List.length_eq_zero_iff.1 h0,a,cap,by rw[h0]⟩
 ·(
 obtain⟨b,off,rfl,-⟩:=h 0 fs[0] (List.getElem?_eq_getElem h0)
 refine .inr ⟨h0,b,off,cap,rfl,hc,fun i f hf=>?_⟩
 obtain⟨b',off',e,h2⟩:=h i f hf
 simp only[Option.some.injEq,Addr.mk.injEq] at e
 obtain⟨rfl,rfl,_⟩:=e
 exact h2))
theorem au.take {w:World} {b off cap:Nat} {fs:List Rat} (h:au w (.slice (some ⟨b,off,none⟩) fs.length cap) fs) (n c:Nat) (hn:n≤fs.length) (hc:n≤c):au w (.slice (some ⟨b,off,none⟩) n c) (fs.take n):=by(
 obtain⟨a,cap',e,-,h⟩:=h
 simp only[Value.slice.injEq] at e
 obtain⟨rfl,-,-⟩:=e
 have hl:(fs.take n).length=n:=by rw[List.length_take];omega
 refine⟨_,c,by rw[hl],by rw[hl];exact hc,fun i f hf=>?_⟩
 have hi:i<n:=by
  have:=(List.getElem?_eq_some_iff.1 hf).1
  omega
 exact h i f (by rw[List.getElem?_take_of_lt hi] at hf;exact hf))
def zbc (vs:List Value):List Value:=vs.flatMap fun v=>v.cells.toList
structure zxd (w:World) (base:Nat) (e:TypeId) (v:Value) (fs:List Rat) (vs:List Value):Prop where
 own:w.ownsRow base e 4 v fs.length (zbc vs)
 len:vs.length=fs.length
 val:∀ (i:Nat) (f:Rat),fs[i]? = some f→∃ s x y p,vs[i]? = some (Value.agg #[.bool s,.int .u64 x,.int .u64 y,.pointer p])∧aq w (.agg #[.bool s,.int .u64 x,.int .u64 y,.pointer p]) f
theorem zmn:∀ (vs:List Value),(∀ v ∈ vs,v.cells.size=4)→∀ (i k:Nat) (v:Value),vs[i]? = some v→k<4→(zbc vs)[4*i+k]? = v.cells[k]?
 | [],_,i,k,v,e,_=>by simp at e
 | u::vs,h,0,k,v,e,hk=>by
  have hu:=h u (by simp)
  simp only[List.getElem?_cons_zero,Option.some.injEq] at e
  subst e
  unfold zbc
  rw[List.flatMap_cons,Nat.mul_zero,Nat.zero_add,List.getElem?_append_left (by rw[Array.length_toList,hu];exact hk)]
  simp
 | u::vs,h,i+1,k,v,e,hk=>by
  have hu:=h u (by simp)
  have ih:=zmn vs (fun x hx=>h x (by simp[hx])) i k v (by simpa using e) hk
  unfold zbc at ih ⊢
  rw[List.flatMap_cons,List.getElem?_append_right (by rw[Array.length_toList,hu];omega),Array.length_toList,hu,show 4*(i+1)+k-4=4*i+k from by omega]
  exact ih
theorem znw (vs us:List Value):zbc (vs++us)=zbc vs++zbc us:=by unfold zbc;rw[List.flatMap_append]
theorem zxd.ztw {w:World} {base:Nat} {e:TypeId} {v:Value} {fs:List Rat} {vs:List Value} (h:zxd w base e v fs vs):au w v fs:=by(
 have h4:∀ u ∈ vs,u.cells.size=4:=fun u hu=>by
  obtain⟨i,hi,rfl⟩:=List.mem_iff_getElem.1 hu
  obtain⟨s,x,y,p,e,-⟩:=h.val i (fs[i]'(by rw[← h.len];exact hi)) (List.getElem?_eq_getElem (by rw[← h.len];exact hi))
  rw[List.getElem?_eq_getElem hi] at e
  rw[Option.some.inj e]
  rfl
 obtain⟨hl,⟨rfl,h0⟩|⟨g,cap,cur,rfl,hg,hb,hn,hm,hs,ht⟩⟩:=id h.own
 ·have:fs=[]:=List.length_eq_zero_iff.1 h0
  subst this
  exact au.nil w
 ·(
 refine⟨_,cap,rfl,hn,fun i f hf=>⟨g,0,rfl,?_⟩⟩
 obtain⟨s,x,y,p,e1,e2⟩:=h.val i f hf
 have cell:∀ k,k<4→w.cell? ⟨g,0+i*4+k,none⟩=(#[Value.bool s,.int .u64 x,.int .u64 y,.pointer p]:Array Value)[k]?:=fun k hk=>by
  have h1:=zmn vs h4 i k _ e1 hk
  have h2:=h.own.cells (g:=g) rfl
  have hlt:k<(#[Value.bool s,.int .u64 x,.int .u64 y,.pointer p]:Array Value).size:=hk
  have h3:=h2 (4*i+k) _ (h1.trans (Array.getElem?_eq_getElem hlt))
  have h5:(⟨g,0,none⟩:Addr).add (4*i+k)=⟨g,0+i*4+k,none⟩:=by
   by_cases hz:4*i+k=0
   ·simp only[Addr.add,hz,if_true,Addr.mk.injEq,true_and,and_true];omega
   ·simp only[Addr.add,hz,if_false,Addr.mk.injEq,true_and,and_true];omega
  rw[h5] at h3
  rw[h3]
  exact (Array.getElem?_eq_getElem hlt).symm
 exact⟨s,x,y,p,⟨cell 0 (by omega),cell 1 (by omega),cell 2 (by omega),cell 3 (by omega)⟩,e2⟩))
theorem zyq (x:Int) (h1:-9223372036854775808≤x) (h2:x<9223372036854775808) (w:World) :
   Calls prog 79 #[.int .i64 x] w fun e w'=>e=.returned (.agg #[.bool (decide (x<0)),.int .u64 ((x.natAbs:Nat):Int),.int .u64 (((1:Nat):Int)-1),.pointer none])∧But [] w w':=by(
 obtain⟨s,hs⟩:∃ s,s=decide (x<0):=⟨_,rfl⟩
 obtain⟨n,hn⟩:∃ n,n=x.natAbs:=⟨_,rfl⟩
 rw[← hs,← hn]
 have HS:=af hs
 have HN:=af hn
 go_enter func79,ntmps79
 go_wp2_with fail
 refine (zma x h1 h2 _).mono ?_
 rintro e w1 ⟨rfl,hw⟩
 obtain rfl:=hw.symm
 go_wp2
 exact bodyPost_ret (v:=.agg #[.bool (decide (x<0)),.int .u64 ((x.natAbs:Nat):Int),.int .u64 0,.pointer none]) (by simp[results,results79,go_sem]) rfl ⟨by rw[ae HS,ae HN];rfl,(But.refl _ _).alloc _⟩)
theorem aw (a:Act) (w:World) (d t:Nat) (u:TypeId) (ps:String) (ed:Array Edge) (gd:Option (Nat × Bool)) (b o:Nat) (s:Bool) (x y:Int) (p:Option Addr) (h1:a.eval (.tmp t)=.pointer (some ⟨b,o,none⟩)) (hc:P4o w b o s x y p) :
   (execOp a.eval { dst:=some d,op:=Op.load 27 (.tmp t),type:=u,pos:=ps,after:=ed,guard:=gd }).run prog w=.ok (.value (.agg #[.bool s,.int .u64 x,.int .u64 y,.pointer p])) w:=by(
 obtain⟨c0,c1,c2,c3⟩:=hc
 unfold execOp
 simp only[h1]
 go_simp)
theorem zhg (a:Act) (w:World) (d t1 t2:Nat) (u:TypeId) (ps:String) (ed:Array Edge) (gd:Option (Nat × Bool)) (x1 x2:Value) (h1:a.eval (.tmp t1)=x1) (h2:a.eval (.tmp t2)=x2) :
   (execOp a.eval { dst:=some d,op:=Op.call { callee:=Callee.value (Operand.func 113),args:=#[Operand.tmp t1,Operand.tmp t2],argTypes:=#[27,27] },type:=u,pos:=ps,after:=ed,guard:=gd }).run prog w=.ok (.enter 113 #[x1,x2]) w:=by(
 unfold execOp
 go_simp
 rw[← h1,← h2]
 simp[Act.eval])
theorem zsb (a:Act) (w:World) (d t1 t2:Nat) (u:TypeId) (ps:String) (ed:Array Edge) (gd:Option (Nat × Bool)) (x1 x2:Value) (h1:a.eval (.tmp t1)=x1) (h2:a.eval (.tmp t2)=x2) :
   (execOp a.eval { dst:=some d,op:=Op.call { callee:=Callee.value (Operand.func 89),args:=#[Operand.tmp t1,Operand.tmp t2],argTypes:=#[27,27] },type:=u,pos:=ps,after:=ed,guard:=gd }).run prog w=.ok (.enter 89 #[x1,x2]) w:=by(
 unfold execOp
 go_simp
 rw[← h1,← h2]
 simp[Act.eval])
theorem zmd (a:Act) (w:World) (d t1 t2:Nat) (u:TypeId) (ps:String) (ed:Array Edge) (gd:Option (Nat × Bool)) (x1 x2:Value) (h1:a.eval (.tmp t1)=x1) (h2:a.eval (.tmp t2)=x2) :
   (execOp a.eval { dst:=some d,op:=Op.call { callee:=Callee.value (Operand.func 58),args:=#[Operand.tmp t1,Operand.tmp t2],argTypes:=#[27,27] },type:=u,pos:=ps,after:=ed,guard:=gd }).run prog w=.ok (.enter 58 #[x1,x2]) w:=by(
 unfold execOp
 go_simp
 rw[← h1,← h2]
 simp[Act.eval])
end Go.Proofs.YtagmkkiagjmimaaGreatDoor
