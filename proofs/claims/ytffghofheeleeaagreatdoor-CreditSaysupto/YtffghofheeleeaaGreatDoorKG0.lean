/- The greatest common divisor of two words -/
import Derived.Test.YtffghofheeleeaaGreatDoorProg
import Derived.WalkKit
import Derived.Deep.QuietTactic
import Derived.BigQuiet
import Derived.Deep.RegionHeld
import Derived.Deep.RegionWith
import Derived.Deep.LoopGhost
import Derived.Laws.OwnMore
import Derived.Test.YtffghofheeleeaaGreatDoorKN17a
import Derived.Test.YtffghofheeleeaaGreatDoorKN17b
import Derived.Test.YtffghofheeleeaaGreatDoorKShelf
namespace Go.Proofs.YtffghofheeleeaaGreatDoor
open Go.Proofs.Tryz
open Go.RowKit
set_option maxHeartbeats 8000000
set_option maxRecDepth 100000
theorem wh (x y:Nat) (w:World) (hx:x<18446744073709551616) (hy:y<18446744073709551616) :
  Calls prog 81 #[.int .u64 x,.int .u64 y] w fun e w'=>e=.returned (.int .u64 (Nat.gcd x y:Nat))∧∃ n,w'=w.drewN n:=by
 go_enter func81,ntmps81
 go_wp2
 go_loopw [0,1] (fun a b w'=>∃ p q:Nat,a=.int .u64 p∧b=.int .u64 q∧p<18446744073709551616∧q<18446744073709551616∧Hid (Nat.gcd p q=Nat.gcd x y)∧∃ n,w'=w.drewN n) (fun _ b _=>(intOf b).toNat)
 case atStart=>exact⟨x,y,rfl,rfl,hx,hy,(rfl:Nat.gcd x y=Nat.gcd x y),0,rfl⟩
 case round =>
  obtain⟨p,q,rfl,rfl,hp,hq,hg,n,rfl⟩:=hrel
  by_cases h0:q=0
  ·subst h0
   go_wp2
   go_ret
   exact⟨by rw[← hg.out];simp,n,rfl⟩
  ·have hb:((q:Int)==0)=false:=by simp;exact h0
   have hn:((q:Int) != 0)=true:=by simp;exact h0
   go_wp2
   go_quiet (fail)
   go_roundw
   case rel =>
    refine⟨_,_,_,_,_,_,_,_,⟨q,p%q,rfl,?_,hq,?_,?_,n+nq,?_⟩,rfl⟩
    ·rw[Int.natCast_emod]
    ·exact Nat.lt_trans (Nat.mod_lt _ (Nat.pos_of_ne_zero h0)) hq
    ·show Nat.gcd q (p%q)=Nat.gcd x y
     rw[← hg.out,Nat.gcd_comm p q,Nat.gcd_rec q p,Nat.gcd_comm]
    ·exact World.drewN_drewN _ _ _
   case measure =>
    simp[intOf]
    have:=Nat.mod_lt p (Nat.pos_of_ne_zero h0)
    omega
theorem zbb (s:Bool) (p q:Nat) (hq:q<18446744073709551616) (hq0:0<q) (w:World) :
  Calls prog 88 #[.agg #[.bool s,.int .u64 (p:Int),.int .u64 ((q:Int)-1),.pointer none]] w fun e w'=>e=.returned (.int .u64 (q:Int))∧But [] w w':=by
 go_enter func88,ntmps88
 go_wp2
 go_ret
 exact⟨rfl,(But.refl _ _).alloc _⟩
theorem zqi (x:Int) (h1:-9223372036854775808≤x) (h2:x<9223372036854775808) (w:World) :
  Calls prog 80 #[.int .i64 x] w fun e w'=>e=.returned (.int .u64 (x.natAbs:Nat))∧w'=w:=by
 by_cases hx:x<0
 ·have e1:IntKind.u64.wrap (-IntKind.u64.wrap x)=((x.natAbs:Nat):Int):=by rw[IntKind.wrap_u64,IntKind.wrap_u64];omega
  obtain⟨n,hn⟩:∃ n:Nat,n=x.natAbs:=⟨_,rfl⟩
  rw[← hn] at e1 ⊢
  clear hn
  go_enter func80,ntmps80
  go_wp2
  go_ret
  exact⟨rfl,rfl⟩
 ·obtain⟨n,rfl⟩:=Int.eq_ofNat_of_zero_le (Int.not_lt.1 hx)
  rw[Int.natAbs_natCast]
  go_enter func80,ntmps80
  go_wp2
  go_ret
  exact⟨rfl,rfl⟩
theorem zit (s:Bool) (p q:Nat) (hp:p<18446744073709551616) (hq:q<18446744073709551616) (hq0:0<q) (r:Bool) (hr:Hid (r=(s && decide (p≠0)))) (w:World) :
  Calls prog 82 #[.bool s,.int .u64 (p:Int),.int .u64 (q:Int)] w fun e w'=>e=.returned (.agg #[.bool r,.int .u64 (p:Int),.int .u64 ((q:Int)-1),.pointer none])∧But [] w w':=by
 have e:((p:Int) != 0)=decide (p≠0):=by rw[Bool.eq_iff_iff];simp
 by_cases h0:p=0
 ·subst h0
  have er:Hid (r=false):=by show _=_;rw[ae hr];simp
  clear hr e
  cases s
  all_goals
   go_enter func82,ntmps82
   go_wp2
   rw[ae er]
   exact bodyPost_ret (v:=.agg #[.bool false,.int .u64 ((0:Nat):Int),.int .u64 ((q:Int)-1),.pointer none]) (by simp[results,results82,go_sem]) rfl ⟨rfl,(But.refl _ _).alloc _⟩
 ·have e1:((p:Int) != 0)=true:=by rw[e];simp[h0]
  cases s
  ·have er:Hid (r=false):=by show _=_;rw[ae hr];simp
   clear hr e
   go_enter func82,ntmps82
   go_wp2
   rw[ae er]
   exact bodyPost_ret (v:=.agg #[.bool false,.int .u64 (p:Int),.int .u64 ((q:Int)-1),.pointer none]) (by simp[results,results82,go_sem]) rfl ⟨rfl,(But.refl _ _).alloc _⟩
  ·have er:Hid (r=true):=by show _=_;rw[ae hr];simp[h0]
   clear hr e
   go_enter func82,ntmps82
   go_wp2
   rw[ae er]
   exact bodyPost_ret (v:=.agg #[.bool true,.int .u64 (p:Int),.int .u64 ((q:Int)-1),.pointer none]) (by simp[results,results82,go_sem]) rfl ⟨rfl,(But.refl _ _).alloc _⟩
theorem zsc (x y:Int) (hx1:-9223372036854775808≤x) (hx2:x<9223372036854775808) (hy1:-9223372036854775808≤y) (hy2:y<9223372036854775808) (hy0:y≠0) (w:World) (r:Bool) (p q:Nat) (hr:Hid (r=((decide (x<0) != decide (y<0)) && decide (p≠0)))) (hp:Hid (p=x.natAbs/Nat.gcd x.natAbs y.natAbs)) (hq:Hid (q=y.natAbs/Nat.gcd x.natAbs y.natAbs)) :
  Calls prog 35 #[.int .i64 x,.int .i64 y] w fun e w'=>e=.returned (.tuple #[.agg #[.bool r,.int .u64 (p:Int),.int .u64 ((q:Int)-1),.pointer none],.nilIface])∧But [] w w':=by
 have n0:(y==0)=false:=by simp;exact hy0
 obtain⟨g,hg⟩:∃ g,g=Nat.gcd x.natAbs y.natAbs:=⟨_,rfl⟩
 have hg0:0<g:=by rw[hg];exact Nat.gcd_pos_of_pos_right _ (by omega)
 have hgl:g≤y.natAbs:=by rw[hg];exact Nat.gcd_le_right _ (by omega)
 have hp':p=x.natAbs/g:=by rw[hg];exact ae hp
 have hq':q=y.natAbs/g:=by rw[hg];exact ae hq
 have hp64:p<18446744073709551616:=by rw[hp'];exact Nat.lt_of_le_of_lt (Nat.div_le_self _ _) (by omega)
 have hq64:q<18446744073709551616:=by rw[hq'];exact Nat.lt_of_le_of_lt (Nat.div_le_self _ _) (by omega)
 have hq0:0<q:=by rw[hq'];exact Nat.div_pos hgl hg0
 have hgz:((g:Int)==0)=false:=by simp;omega
 have hg64:g<18446744073709551616:=by omega
 obtain⟨a,ha⟩:∃ a,a=x.natAbs:=⟨_,rfl⟩
 obtain⟨b,hb⟩:∃ b,b=y.natAbs:=⟨_,rfl⟩
 have ha64:a<18446744073709551616:=by omega
 have hb64:b<18446744073709551616:=by omega
 have d1:(a:Int)/(g:Int)=(p:Int):=by rw[hp',← ha,Int.natCast_ediv]
 have d2:(b:Int)/(g:Int)=(q:Int):=by rw[hq',← hb,Int.natCast_ediv]
 have d3:(a:Int).tdiv (g:Int)=(p:Int):=by rw[Int.tdiv_eq_ediv_of_nonneg (by omega)];exact d1
 have d4:(b:Int).tdiv (g:Int)=(q:Int):=by rw[Int.tdiv_eq_ediv_of_nonneg (by omega)];exact d2
 have d5:IntKind.u64.wrap (p:Int)=(p:Int):=by rw[IntKind.wrap_u64];omega
 have d6:IntKind.u64.wrap (q:Int)=(q:Int):=by rw[IntKind.wrap_u64];omega
 have HA:=af ha
 have HB:=af hb
 have HG:=af hg
 clear hp' hq' ha hb hg hgl
 obtain⟨s1,hs1⟩:∃ s1,s1=decide (x<0):=⟨_,rfl⟩
 go_enter func35,ntmps35
 go_wp2_with fail
 refine (zqi x hx1 hx2 _).mono ?_
 rintro e w1 ⟨rfl,hw⟩
 obtain rfl:=hw.symm
 clear hw
 rw[← ae HA]
 go_wp2_with fail
 refine (zqi y hy1 hy2 _).mono ?_
 rintro e w1 ⟨rfl,hw⟩
 obtain rfl:=hw.symm
 clear hw
 rw[← ae HB]
 go_wp2_with fail
 refine (wh a b _ ha64 hb64).mono ?_
 rintro e w1 ⟨rfl,k,rfl⟩
 rw[show Nat.gcd a b=g from by rw[ae HA,ae HB,ae HG]]
 go_wp2
 have hb0:But [] w ((w.alloc (.cells #[.bool false,.int .u64 0,.int .u64 0,.pointer none] 27)).drewN k):=((But.refl _ _).alloc _).drewN k
 have c0:((w.alloc (.cells #[.bool false,.int .u64 0,.int .u64 0,.pointer none] 27)).drewN k).cell? ⟨w.heap.size,0,none⟩=some (.bool false):=by simp
 have c1:((w.alloc (.cells #[.bool false,.int .u64 0,.int .u64 0,.pointer none] 27)).drewN k).cell? ⟨w.heap.size,1,none⟩=some (.int .u64 0):=by simp
 have c2:((w.alloc (.cells #[.bool false,.int .u64 0,.int .u64 0,.pointer none] 27)).drewN k).cell? ⟨w.heap.size,2,none⟩=some (.int .u64 0):=by simp
 have c3:((w.alloc (.cells #[.bool false,.int .u64 0,.int .u64 0,.pointer none] 27)).drewN k).cell? ⟨w.heap.size,3,none⟩=some (.pointer none):=by simp
 have hf:∀ j,((w.alloc (.cells #[.bool false,.int .u64 0,.int .u64 0,.pointer none] 27)).drewN k).frozen? ⟨w.heap.size,j,none⟩=false:=by intro j;simp
 have hsz:w.heap.size<((w.alloc (.cells #[.bool false,.int .u64 0,.int .u64 0,.pointer none] 27)).drewN k).heap.size:=by simp
 generalize (w.alloc (.cells #[.bool false,.int .u64 0,.int .u64 0,.pointer none] 27)).drewN k=W at *
 obtain⟨gb,hgb⟩:∃ gb,gb=w.heap.size:=⟨_,rfl⟩
 rw[← hgb] at c0 c1 c2 c3 hf hsz
 rw[← hgb]
 have HGB:=af hgb
 clear hgb
 go_region_with (go_at_call 82;refine (zit (decide (x<0) != decide (y<0)) p q hp64 hq64 hq0 r hr _).mono ?_;rintro e w1 ⟨rfl,hb1⟩;have B1:But [] W w1:=(by first | exact hb1 | exact (But.refl _ _).drew.trans' hb1);have k0:=B1.ag c0 (by simp);have k1:=B1.ag c1 (by simp);have k2:=B1.ag c2 (by simp);have k3:=B1.ag c3 (by simp);have f0:=(B1.frozen (p:=⟨gb,0,none⟩) hsz (by simp)).trans (hf 0);have f1:=(B1.frozen (p:=⟨gb,1,none⟩) hsz (by simp)).trans (hf 1);have f2:=(B1.frozen (p:=⟨gb,2,none⟩) hsz (by simp)).trans (hf 2);have f3:=(B1.frozen (p:=⟨gb,3,none⟩) hsz (by simp)).trans (hf 3))
 all_goals go_wp2
 all_goals
  have hge:w.heap.size≤gb:=Nat.le_of_eq (ae HGB).symm
  exact bodyPost_ret (v:=.tuple #[.agg #[.bool r,.int .u64 (p:Int),.int .u64 ((q:Int)-1),.pointer none],.nilIface]) (by simp[results,results35,go_sem,k0,k1,k2,k3]) rfl ⟨rfl,(((((hb0.trans' B1).setCell (.inr hge) _).setCell (.inr hge) _).setCell (.inr hge) _).setCell (.inr hge) _)⟩
theorem zbu (n:Int) (d:Nat) (hd:d≠0) (hc:n.natAbs.Coprime d) (q:Rat) (h:q.num*d=n*q.den):q.num=n∧q.den=d:=by
 have e:q=⟨n,d,hd,hc⟩:=by
  rw[Rat.mk_eq_mkRat,← Rat.mkRat_self q,Rat.mkRat_eq_iff q.den_nz hd]
  exact h
 rw[e]
 exact⟨rfl,rfl⟩
def sgn (s:Bool) (m:Nat):Int:=if s then -(m:Int) else (m:Int)
theorem xk (s:Bool) (m:Nat):(sgn s m).natAbs=m:=by cases s <;> simp[sgn]
theorem zdw (s:Bool) (m k:Nat):sgn s (m*k)=sgn s m*k:=by cases s <;> simp[sgn,Int.neg_mul]
theorem znr (f g:Rat):(f+g).num*(f.den*g.den:Nat)=(f.num*g.den+g.num*f.den)*(f+g).den:=by
 have h:=Rat.add_def' f g
 rw[← Rat.mkRat_self (f+g),Rat.mkRat_eq_iff (f+g).den_nz (Nat.mul_ne_zero f.den_nz g.den_nz)] at h
 exact h
theorem zek (f g:Rat):(f*g).num*(f.den*g.den:Nat)=(f.num*g.num)*(f*g).den:=by
 have h:=Rat.mul_def' f g
 rw[← Rat.mkRat_self (f*g),Rat.mkRat_eq_iff (f*g).den_nz (Nat.mul_ne_zero f.den_nz g.den_nz)] at h
 exact h
theorem qfq (a c:Int) (b b' d':Nat) (hab:a.natAbs.Coprime b) (hb:b' ∣ b) (hbd:b'.Coprime d'):(a*d' + c*b').natAbs.Coprime b':=by
 rw[Nat.Coprime]
 have hp1:Nat.gcd (a*d' + c*b').natAbs b' ∣ b':=Nat.gcd_dvd_right _ _
 have hp2:Nat.gcd (a*d' + c*b').natAbs b' ∣ (a*d' + c*b').natAbs:=Nat.gcd_dvd_left _ _
 generalize Nat.gcd (a*d' + c*b').natAbs b'=p at *
 have h1:(p:Int) ∣ a*d' + c*b':=Int.ofNat_dvd_left.2 hp2
 have h2:(p:Int) ∣ c*b':=Int.dvd_mul_of_dvd_right (Int.natCast_dvd_natCast.2 hp1)
 have h3:(p:Int) ∣ a*d':=(Int.dvd_add_left h2).1 h1
 have h4:p ∣ a.natAbs*d':=by
  have:=Int.ofNat_dvd_left.1 h3
  rwa [Int.natAbs_mul,Int.natAbs_natCast] at this
 have h5:p.Coprime a.natAbs:=Nat.Coprime.coprime_dvd_left (Nat.dvd_trans hp1 hb) hab.symm
 have h6:p ∣ d':=h5.dvd_of_dvd_mul_left h4
 have h7:p ∣ Nat.gcd b' d':=Nat.dvd_gcd hp1 h6
 rw[hbd] at h7
 exact Nat.dvd_one.1 h7
theorem zps (f g:Rat) (s:Bool) (M k m:Nat) (hk:k=Nat.gcd f.den g.den) (hm:m=Nat.gcd M k) (hN:f.num*(g.den/k:Nat)+g.num*(f.den/k:Nat)=sgn s M):(f+g).num=sgn s (M/m)∧(f+g).den=(f.den/k)*(g.den/m):=by
 have hb0:0<f.den:=Nat.pos_of_ne_zero f.den_nz
 have hd0:0<g.den:=Nat.pos_of_ne_zero g.den_nz
 have hk0:0<k:=by rw[hk];exact Nat.gcd_pos_of_pos_left _ hb0
 have kb:k ∣ f.den:=by rw[hk];exact Nat.gcd_dvd_left _ _
 have kd:k ∣ g.den:=by rw[hk];exact Nat.gcd_dvd_right _ _
 have hcop:(f.den/k).Coprime (g.den/k):=by rw[hk];exact Nat.coprime_div_gcd_div_gcd (by rw[← hk];exact hk0)
 have hm0:0<m:=by rw[hm];exact Nat.gcd_pos_of_pos_right _ hk0
 have mk:m ∣ k:=by rw[hm];exact Nat.gcd_dvd_right _ _
 have mM:m ∣ M:=by rw[hm];exact Nat.gcd_dvd_left _ _
 have c1:M.Coprime (f.den/k):=by
  have:=qfq f.num g.num f.den (f.den/k) (g.den/k) f.reduced (Nat.div_dvd_of_dvd kb) hcop
  rwa [hN,xk] at this
 have c2:M.Coprime (g.den/k):=by
  have:=qfq g.num f.num g.den (g.den/k) (f.den/k) g.reduced (Nat.div_dvd_of_dvd kd) hcop.symm
  rw[Int.add_comm] at this
  rwa [hN,xk] at this
 have c3:(M/m).Coprime (k/m):=by rw[hm];exact Nat.coprime_div_gcd_div_gcd (by rw[← hm];exact hm0)
 obtain⟨b',hb'⟩:=kb
 obtain⟨d',hd'⟩:=kd
 obtain⟨k',hk'⟩:=mk
 obtain⟨M',hM'⟩:=mM
 have e1:f.den/k=b':=by rw[hb',Nat.mul_div_cancel_left _ hk0]
 have e2:g.den/k=d':=by rw[hd',Nat.mul_div_cancel_left _ hk0]
 have e3:k/m=k':=by rw[hk',Nat.mul_div_cancel_left _ hm0]
 have e4:M/m=M':=by rw[hM',Nat.mul_div_cancel_left _ hm0]
 have e5:g.den/m=k' * d':=by rw[hd',hk',Nat.mul_assoc,Nat.mul_div_cancel_left _ hm0]
 rw[e1,e2] at hN
 rw[e1] at c1
 rw[e2] at c2
 rw[e3,e4] at c3
 rw[e1,e4,e5]
 have c1':M'.Coprime b':=Nat.Coprime.coprime_dvd_left ⟨m,by rw[hM',Nat.mul_comm]⟩ c1
 have c2':M'.Coprime d':=Nat.Coprime.coprime_dvd_left ⟨m,by rw[hM',Nat.mul_comm]⟩ c2
 have hb1:b'≠0:=by rintro rfl;rw[Nat.mul_zero] at hb';omega
 have hd1:d'≠0:=by rintro rfl;rw[Nat.mul_zero] at hd';omega
 have hk1:k'≠0:=by rintro rfl;rw[Nat.mul_zero] at hk';omega
 refine zbu _ _ (Nat.mul_ne_zero hb1 (Nat.mul_ne_zero hk1 hd1)) (by rw[xk];exact c1'.mul_right (c3.mul_right c2')) _ ?_
 have hx:=znr f g
 generalize (f+g).num=n at *
 generalize (f+g).den=e at *
 have hs:sgn s M=sgn s M' * m:=by rw[hM',Nat.mul_comm,zdw]
 rw[hs] at hN
 rw[hb',hd',hk'] at hx
 have hmz:(m:Int)≠0:=by omega
 have hkz:(k':Int)≠0:=by omega
 have hx2:(n*((b' * (k' * d'):Nat):Int))*(m*m*k')=(sgn s M' * e)*(m*m*k'):=by
  have h5:(f.num*(d':Int)+g.num*b')*(m*k')*e*m=sgn s M' * m*(m*k')*e*m:=by rw[hN]
  simp only[Int.natCast_mul] at hx ⊢
  grind
 exact Int.eq_of_mul_eq_mul_right (Int.mul_ne_zero (Int.mul_ne_zero hmz hmz) hkz) hx2
theorem zjm (f:Rat):f.num=sgn (decide (f.num<0)) f.num.natAbs:=by
 unfold sgn
 by_cases h:f.num<0
 ·simp only[h,decide_true,if_true];omega
 ·simp only[h,decide_false,Bool.false_eq_true,if_false];omega
theorem zpn (f g:Rat) (p q:Nat) (hp:p=Nat.gcd f.num.natAbs g.den) (hq:q=Nat.gcd g.num.natAbs f.den):(f*g).num=sgn (decide (f.num<0) != decide (g.num<0)) (f.num.natAbs/p*(g.num.natAbs/q))∧(f*g).den=(f.den/q)*(g.den/p):=by
 have hb0:0<f.den:=Nat.pos_of_ne_zero f.den_nz
 have hd0:0<g.den:=Nat.pos_of_ne_zero g.den_nz
 have hp0:0<p:=by rw[hp];exact Nat.gcd_pos_of_pos_right _ hd0
 have hq0:0<q:=by rw[hq];exact Nat.gcd_pos_of_pos_right _ hb0
 have pa:p ∣ f.num.natAbs:=by rw[hp];exact Nat.gcd_dvd_left _ _
 have pd:p ∣ g.den:=by rw[hp];exact Nat.gcd_dvd_right _ _
 have qc:q ∣ g.num.natAbs:=by rw[hq];exact Nat.gcd_dvd_left _ _
 have qb:q ∣ f.den:=by rw[hq];exact Nat.gcd_dvd_right _ _
 have c1:(f.num.natAbs/p).Coprime (g.den/p):=by rw[hp];exact Nat.coprime_div_gcd_div_gcd (by rw[← hp];exact hp0)
 have c2:(g.num.natAbs/q).Coprime (f.den/q):=by rw[hq];exact Nat.coprime_div_gcd_div_gcd (by rw[← hq];exact hq0)
 have c3:(f.num.natAbs/p).Coprime (f.den/q):=Nat.Coprime.coprime_dvd_left (Nat.div_dvd_of_dvd pa) (Nat.Coprime.coprime_dvd_right (Nat.div_dvd_of_dvd qb) f.reduced)
 have c4:(g.num.natAbs/q).Coprime (g.den/p):=Nat.Coprime.coprime_dvd_left (Nat.div_dvd_of_dvd qc) (Nat.Coprime.coprime_dvd_right (Nat.div_dvd_of_dvd pd) g.reduced)
 have hx:=zek f g
 rw[zjm f,zjm g] at hx
 generalize decide (f.num<0)=s at *
 generalize decide (g.num<0)=t at *
 have nz1:f.den/q≠0:=Nat.ne_of_gt (Nat.div_pos (Nat.le_of_dvd hb0 qb) hq0)
 have nz2:g.den/p≠0:=Nat.ne_of_gt (Nat.div_pos (Nat.le_of_dvd hd0 pd) hp0)
 refine zbu _ _ (Nat.mul_ne_zero nz1 nz2) (by rw[xk];exact (c3.mul_right c1).mul_left (c2.mul_right c4)) _ ?_
 obtain⟨a',ha⟩:=pa
 obtain⟨d',hd⟩:=pd
 obtain⟨c',hc⟩:=qc
 obtain⟨b',hb⟩:=qb
 rw[ha,hc,hb,hd] at hx
 rw[ha,hc,hb,hd,Nat.mul_div_cancel_left _ hp0,Nat.mul_div_cancel_left _ hq0,Nat.mul_div_cancel_left _ hq0,Nat.mul_div_cancel_left _ hp0]
 generalize (f*g).num=n at *
 generalize (f*g).den=e at *
 have hpz:(p:Int)≠0:=by omega
 have hqz:(q:Int)≠0:=by omega
 refine Int.eq_of_mul_eq_mul_right (a:=(p*q:Int)) (Int.mul_ne_zero hpz hqz) ?_
 cases s <;> cases t <;> simp only[sgn,Int.natCast_mul,bne_self_eq_false,Bool.false_eq_true,if_false,if_true,Bool.not_false,Bool.bne_false,Bool.bne_true] at hx ⊢ <;> grind
def aq (w:World) (v:Value) (f:Rat):Prop :=
 (f.num.natAbs < 18446744073709551616∧f.den < 18446744073709551616∧v=.agg #[.bool (decide (f.num<0)),.int .u64 (f.num.natAbs:Int),.int .u64 ((f.den:Int)-1),.pointer none]) ∨
 ((18446744073709551616≤f.num.natAbs∨18446744073709551616≤f.den)∧∃ b v1 v2,v=.agg #[.bool (decide (f.num<0)),.int .u64 0,.int .u64 0,.pointer (some ⟨b,0,none⟩)]∧w.cell? ⟨b,0,none⟩=some v1∧w.cell? ⟨b,1,none⟩=some v2∧Sl .u64 w v1 (wd 18446744073709551616 f.num.natAbs)∧Sl .u64 w v2 (wd 18446744073709551616 f.den))
theorem aq.but {w w':World} {v:Value} {f:Rat} (h:aq w v f) (hb:But [] w w'):aq w' v f:=by
 rcases h with h|⟨h1,b,v1,v2,h2,h3,h4,h5,h6⟩
 ·exact .inl h
 ·exact .inr ⟨h1,b,v1,v2,h2,hb.ag h3 (by simp),hb.ag h4 (by simp),h5.ah hb,h6.ah hb⟩
theorem aq.over {w W:World} {v:Value} {f:Rat} (h:aq w v f) {g:Nat} {s:Bool} (c0:w.cell? ⟨g,0,none⟩=some (.bool s)) (hb:But [g] w W):aq W v f:=by
 rcases h with h1|⟨h1,b,v1,v2,h2,h3,h4,h5,h6⟩
 ·exact .inl h1
 ·have hbg:b≠g:=by
   rintro rfl
   obtain⟨a,cap,rfl,-⟩:=h5
   rw[c0] at h3
   simp at h3
  exact .inr ⟨h1,b,v1,v2,h2,hb.ag h3 (by simpa using hbg),hb.ag h4 (by simpa using hbg),h5.over hb c0 (by simp),h6.over hb c0 (by simp)⟩
def Len (f:Rat) (n:Nat):Prop:=(wd 18446744073709551616 f.num.natAbs).length≤n∧(wd 18446744073709551616 f.den).length≤n
theorem den_pos (f:Rat):0<f.den:=Nat.pos_of_ne_zero f.den_nz
theorem ut (v:Value) (f:Rat) (w:World) (hf:aq w v f) :
  Calls prog 37 #[v] w fun e w'=>∃ v1 v2,e=.returned (.tuple #[v1,v2])∧Sl .u64 w' v1 (wd 18446744073709551616 f.num.natAbs)∧Sl .u64 w' v2 (wd 18446744073709551616 f.den)∧But [] w w':=by
 rcases hf with ⟨hp,hq,rfl⟩|⟨-,b,v1,v2,rfl,hc0,hc1,hs1,hs2⟩
 ·have hq0:=den_pos f
  generalize decide (f.num<0)=s
  generalize f.num.natAbs=p at *
  generalize f.den=q at *
  go_enter func37,ntmps37
  go_wp2
  obtain⟨W,hW⟩:∃ W,W=w.alloc (.cells #[.bool s,.int .u64 (p:Int),.int .u64 ((q:Int)-1),.pointer none] 27):=⟨_,rfl⟩
  have c0:W.cell? ⟨w.heap.size,0,none⟩=some (.bool s):=by rw[hW];simp
  have c1:W.cell? ⟨w.heap.size,1,none⟩=some (.int .u64 (p:Int)):=by rw[hW];simp
  have c2:W.cell? ⟨w.heap.size,2,none⟩=some (.int .u64 ((q:Int)-1)):=by rw[hW];simp
  have c3:W.cell? ⟨w.heap.size,3,none⟩=some (.pointer none):=by rw[hW];simp
  have hB:But [] w W:=by rw[hW];exact (But.refl _ _).alloc _
  rw[← hW]
  clear hW
  generalize w.heap.size=g at *
  go_region_held (fun w'=>w'.cell? ⟨g,0,none⟩=some (.bool s)∧w'.cell? ⟨g,1,none⟩=some (.int .u64 (p:Int))∧w'.cell? ⟨g,2,none⟩=some (.int .u64 ((q:Int)-1))∧w'.cell? ⟨g,3,none⟩=some (.pointer none)) (go_keep) (first
   | (go_at_call_of 87 (Value.int IntKind.u64 (p:Int));refine (zbf p hp _).mono ?_;rintro e w1 ⟨v1,rfl,hv1,hb1,-⟩;have B1:But [] W w1:=(by first | exact hb1 | exact (But.refl _ _).drew.trans' hb1);have k0:=B1.ag c0 (by simp);have k1:=B1.ag c1 (by simp);have k2:=B1.ag c2 (by simp);have k3:=B1.ag c3 (by simp))
   | (go_at_call 88;refine (zbb s p q hq hq0 _).mono ?_;rintro e w2 ⟨rfl,hb2⟩;have B2:But [] W w2:=B1.trans' hb2;have l0:=B2.ag c0 (by simp);have l1:=B2.ag c1 (by simp);have l2:=B2.ag c2 (by simp);have l3:=B2.ag c3 (by simp))
   | (go_at_call_of 87 (Value.int IntKind.u64 (q:Int));refine (zbf q hq _).mono ?_;rintro e w3 ⟨v3,rfl,hv3,hb3,-⟩;have B3:But [] W w3:=B2.trans' hb3;have m0:=B3.ag c0 (by simp);have m1:=B3.ag c1 (by simp);have m2:=B3.ag c2 (by simp);have m3:=B3.ag c3 (by simp)))
  all_goals go_wp2
  all_goals go_ret2
  all_goals exact⟨v1,v3,rfl,(hv1.ah hb2).ah hb3,hv3,hB.trans' B3⟩
 ·have hbl:b<w.heap.size:=ai hc0
  have HS:=af (And.intro hs1 hs2)
  clear hs1 hs2
  generalize decide (f.num<0)=s
  go_enter func37,ntmps37
  go_wp2
  obtain⟨W,hW⟩:∃ W,W=w.alloc (.cells #[.bool s,.int .u64 0,.int .u64 0,.pointer (some ⟨b,0,none⟩)] 27):=⟨_,rfl⟩
  have HB:Hid (But [] w W):=by show But _ _ _;rw[hW];exact (But.refl _ _).alloc _
  have c3:W.cell? ⟨w.heap.size,3,none⟩=some (.pointer (some ⟨b,0,none⟩)):=by rw[hW];simp
  have d0:=(ae HB).ag hc0 (by simp)
  have d1:=(ae HB).ag hc1 (by simp)
  rw[← hW]
  clear hW hc0 hc1
  generalize w.heap.size=g at *
  go_quiet (fail)
  go_wp2
  go_ret2
  exact⟨v1,v2,rfl,(ae HS).1.ah ((ae HB).drewN nq),(ae HS).2.ah ((ae HB).drewN nq),(ae HB).drewN nq⟩
theorem zgv (s:Bool) (m:Nat):decide (sgn s m<0)=(s && decide (m≠0)):=by
 cases s
 ·have h1:¬ ((m:Int)<0):=by omega
  simp[sgn,h1]
 ·by_cases h0:m=0
  ·subst h0;rfl
  ·have h1:-(m:Int)<0:=by omega
   have h2:0<m:=by omega
   simp[sgn,h0,h2]
theorem zcs (s:Bool) (v1 v2:Value) (f:Rat) (w:World) (h1:Sl .u64 w v1 (wd 18446744073709551616 f.num.natAbs)) (h2:Sl .u64 w v2 (wd 18446744073709551616 f.den)) (hs:f.num=sgn s f.num.natAbs) (hl1:(wd 18446744073709551616 f.num.natAbs).length<2147483648) (hl2:(wd 18446744073709551616 f.den).length<2147483648) :
  Calls prog 122 #[.bool s,v1,v2] w fun e w'=>∃ v,e=.returned v∧aq w' v f∧But [] w w':=by
 have hsg:decide (f.num<0)=(s && decide (f.num.natAbs≠0)):=by rw[hs,xk];exact zgv _ _
 have hq0:=den_pos f
 have hle0:w.heap.size≤w.heap.size:=Nat.le_refl _
 obtain⟨W0,hW0⟩:∃ W0,W0=w.alloc (.cells #[.bool false,.int .u64 0,.int .u64 0,.pointer none] 27):=⟨_,rfl⟩
 have hB0:But [] w W0:=by rw[hW0];exact (But.refl _ _).alloc _
 have c0:W0.cell? ⟨w.heap.size,0,none⟩=some (.bool false):=by rw[hW0];simp
 have c1:W0.cell? ⟨w.heap.size,1,none⟩=some (.int .u64 0):=by rw[hW0];simp
 have c2:W0.cell? ⟨w.heap.size,2,none⟩=some (.int .u64 0):=by rw[hW0];simp
 have c3:W0.cell? ⟨w.heap.size,3,none⟩=some (.pointer none):=by rw[hW0];simp
 have fz:∀ j,W0.frozen? ⟨w.heap.size,j,none⟩=false:=by intro j;rw[hW0];simp
 have hgs:w.heap.size<W0.heap.size:=by rw[hW0];simp
 have h1':=h1.ah hB0
 have h2':=h2.ah hB0
 have HW0:=af hW0
 have HB0:=af hB0
 clear hW0 hB0 hle0
 by_cases hb:f.num.natAbs < 18446744073709551616∧f.den < 18446744073709551616
 ·obtain⟨hp,hq⟩:=hb
  have HW1:=af (zdj v1 f.num.natAbs hp W0 h1')
  have HW2:=af (zdj v2 f.den hq W0 h2')
  have HO:=af (zit s f.num.natAbs f.den hp hq hq0 (decide (f.num<0)) hsg W0)
  have FIN:Hid (∀ W,aq W (.agg #[.bool (decide (f.num<0)),.int .u64 (f.num.natAbs:Int),.int .u64 ((f.den:Int)-1),.pointer none]) f):=fun W=>.inl ⟨hp,hq,rfl⟩
  obtain⟨a1,d1,rfl,-,-⟩:=h1
  obtain⟨a2,d2,rfl,-,-⟩:=h2
  clear hs hsg h1' h2'
  generalize (wd 18446744073709551616 f.num.natAbs).length=n1 at *
  generalize (wd 18446744073709551616 f.den).length=n2 at *
  generalize decide (f.num<0)=r at *
  generalize f.num.natAbs=p at *
  generalize hqq:f.den=q at *
  clear hqq
  go_enter func122,ntmps122
  go_wp2_with fail
  rw[← ae HW0]
  obtain⟨g,hg⟩:∃ g,g=w.heap.size:=⟨_,rfl⟩
  rw[← hg] at c0 c1 c2 c3 fz hgs
  rw[← hg]
  have HG:Hid (w.heap.size≤g):=Nat.le_of_eq hg.symm
  clear hg HW0
  refine (ae HW1).mono ?_
  rintro e w1 ⟨rfl,hw⟩
  obtain rfl:=hw.symm
  clear hw
  go_wp2_with fail
  refine (ae HW2).mono ?_
  rintro e w1 ⟨rfl,hw⟩
  obtain rfl:=hw.symm
  clear hw
  go_wp2_with fail
  refine (ae HO).mono ?_
  rintro e w1 ⟨rfl,hb1⟩
  have k0:=hb1.ag c0 (by simp)
  have k1:=hb1.ag c1 (by simp)
  have k2:=hb1.ag c2 (by simp)
  have k3:=hb1.ag c3 (by simp)
  have kf:∀ j,w1.frozen? ⟨g,j,none⟩=false:=fun j=>(hb1.frozen (p:=⟨g,j,none⟩) hgs (by simp)).trans (fz j)
  have HB1:=af ((ae HB0).trans' hb1)
  clear hb1 c0 c1 c2 c3 fz
  go_wp2
  refine bodyPost_ret (v:=.agg #[.bool r,.int .u64 (p:Int),.int .u64 ((q:Int)-1),.pointer none]) (by simp[results,results122,go_sem,k0,k1,k2,k3]) rfl ⟨_,rfl,ae FIN _,?_⟩
  exact ((((ae HB1).setCell (.inr (ae HG)) _).setCell (.inr (ae HG)) _).setCell (.inr (ae HG)) _).setCell (.inr (ae HG)) _
 ·have hbig:18446744073709551616≤f.num.natAbs∨18446744073709551616≤f.den:=by omega
  have hr:decide (f.num<0)=s:=by
   rw[hsg]
   have hn0:f.num.natAbs≠0:=by
    intro e0
    have e1:=f.reduced
    rw[e0,Nat.coprime_zero_left] at e1
    omega
   simp[hn0]
  have H1:=af h1
  have H2:=af h2
  have HWS:Hid ((f.num.natAbs < 18446744073709551616∧Calls prog 89 #[v1] W0 (fun e w'=>e=.returned (.tuple #[.int .u64 (f.num.natAbs:Int),.bool true])∧w'=W0)∧Calls prog 89 #[v2] W0 (fun e w'=>e=.returned (.tuple #[.int .u64 0,.bool false])∧w'=W0))∨(∃ (x:Nat) (t:Bool),Calls prog 89 #[v1] W0 (fun e w'=>e=.returned (.tuple #[.int .u64 0,.bool false])∧w'=W0)∧Calls prog 89 #[v2] W0 (fun e w'=>e=.returned (.tuple #[.int .u64 (x:Int),.bool t])∧w'=W0))):=by
   rcases Nat.lt_or_ge f.num.natAbs 18446744073709551616 with hp | hp
   ·exact .inl ⟨hp,zdj v1 _ hp W0 h1',zbv v2 _ (by omega) W0 h2' hl2⟩
   ·rcases Nat.lt_or_ge f.den 18446744073709551616 with hq | hq
    ·exact .inr ⟨f.den,true,zbv v1 _ hp W0 h1' hl1,zdj v2 _ hq W0 h2'⟩
    ·exact .inr ⟨0,false,zbv v1 _ hp W0 h1' hl1,zbv v2 _ hq W0 h2' hl2⟩
  obtain⟨a1,d1,rfl,-,-⟩:=h1
  obtain⟨a2,d2,rfl,-,-⟩:=h2
  have FIN:Hid (∀ W b v1 v2,W.cell? ⟨b,0,none⟩=some v1→W.cell? ⟨b,1,none⟩=some v2→Sl .u64 W v1 (wd 18446744073709551616 f.num.natAbs)→Sl .u64 W v2 (wd 18446744073709551616 f.den)→aq W (.agg #[.bool s,.int .u64 0,.int .u64 0,.pointer (some ⟨b,0,none⟩)]) f):=fun W b v1 v2 e1 e2 e3 e4=>.inr ⟨hbig,b,v1,v2,by rw[hr],e1,e2,e3,e4⟩
  clear hs hsg h1' h2' hr hb hbig
  generalize (wd 18446744073709551616 f.num.natAbs).length=n1 at *
  generalize (wd 18446744073709551616 f.den).length=n2 at *
  rcases ae HWS with ⟨-,w1c,w2c⟩|⟨x,t,w1c,w2c⟩
  all_goals
   have HW1:=af w1c
   have HW2:=af w2c
   clear w1c w2c HWS
   go_enter func122,ntmps122
   go_wp2_with fail
   rw[← ae HW0]
   obtain⟨g,hg⟩:∃ g,g=w.heap.size:=⟨_,rfl⟩
   rw[← hg] at c0 c1 c2 c3 fz hgs
   rw[← hg]
   have HG:Hid (w.heap.size≤g):=Nat.le_of_eq hg.symm
   clear hg HW0
   refine (ae HW1).mono ?_
   rintro e w1 ⟨rfl,hw⟩
   obtain rfl:=hw.symm
   clear hw
   go_wp2_with fail
   refine (ae HW2).mono ?_
   rintro e w1 ⟨rfl,hw⟩
   obtain rfl:=hw.symm
   clear hw
   go_wp2
   have hBf:=(((((ae HB0).setCell (p:=⟨g,0,none⟩) (.inr (ae HG)) (.bool s)).setCell (p:=⟨g,1,none⟩) (.inr (ae HG)) (.int .u64 0)).setCell (p:=⟨g,2,none⟩) (.inr (ae HG)) (.int .u64 0)).setCell (p:=⟨g,3,none⟩) (.inr (ae HG)) (.pointer (some ⟨W0.heap.size,0,none⟩))).alloc (.cells #[.slice a1 n1 d1,.slice a2 n2 d2] 146)
   refine bodyPost_ret (v:=.agg #[.bool s,.int .u64 0,.int .u64 0,.pointer (some ⟨W0.heap.size,0,none⟩)]) (by simp[results,results122,go_sem,c0,c1,c2,c3,hgs]) rfl ⟨_,rfl,ae FIN _ W0.heap.size (.slice a1 n1 d1) (.slice a2 n2 d2) ?_ ?_ ((ae H1).ah hBf) ((ae H2).ah hBf),hBf⟩
   ·have:=World.cell?_alloc_new ((((W0.setCell ⟨g,0,none⟩ (.bool s)).setCell ⟨g,1,none⟩ (.int .u64 0)).setCell ⟨g,2,none⟩ (.int .u64 0)).setCell ⟨g,3,none⟩ (.pointer (some ⟨W0.heap.size,0,none⟩))) #[.slice a1 n1 d1,.slice a2 n2 d2] 146 0
    simpa using this
   ·have:=World.cell?_alloc_new ((((W0.setCell ⟨g,0,none⟩ (.bool s)).setCell ⟨g,1,none⟩ (.int .u64 0)).setCell ⟨g,2,none⟩ (.int .u64 0)).setCell ⟨g,3,none⟩ (.pointer (some ⟨W0.heap.size,0,none⟩))) #[.slice a1 n1 d1,.slice a2 n2 d2] 146 1
    simpa using this
theorem qev (X m:Nat) (h:(wd 18446744073709551616 X).length=m+2):X=vl 18446744073709551616 ((wd 18446744073709551616 X).take m) + 18446744073709551616^m*((wd 18446744073709551616 X)[m]?.getD 0 + 18446744073709551616*(wd 18446744073709551616 X)[m+1]?.getD 0):=by
 have e:=zda 18446744073709551616 (wd 18446744073709551616 X) m (by omega)
 rw[drop_one _ (m+1) (by omega),qce,jg (by omega)] at e
 exact e
theorem qqw (X m:Nat) (h:(wd 18446744073709551616 X).length=m+1):X=vl 18446744073709551616 ((wd 18446744073709551616 X).take m) + 18446744073709551616^m*((wd 18446744073709551616 X)[m]?.getD 0 + 18446744073709551616*0):=by
 have e:=zda 18446744073709551616 (wd 18446744073709551616 X) m (by omega)
 rw[List.drop_eq_nil_of_le (by omega),vl,jg (by omega)] at e
 exact e
theorem qpm (x1 x0 n:Nat) (hn:n≤63) (hx0:x0 < 18446744073709551616) (h:x1*2^n < 18446744073709551616):x1*2^n+x0/2^(64-n) < 18446744073709551616:=by
 have hp:18446744073709551616=2^(64-n)*2^n:=by rw[← Nat.pow_add,show (64-n)+n=64 from by omega]
 have h5:(x1+1)*2^n≤18446744073709551616:=by
  rw[hp] at h ⊢
  exact Nat.mul_le_mul_right _ (Nat.lt_of_mul_lt_mul_right h)
 rw[Nat.add_mul,Nat.one_mul] at h5
 have:=(zyg x1 x0 n hn hx0).2
 generalize x0/2^(64-n)=z at *
 generalize x1*2^n=y at *
 generalize 2^n=P at *
 omega
theorem nk.fin' {ps qs ps' qs':List Nat} {c1 c2 c3 c4 n up dn lf rt bo ow:Nat} (h:nk ps qs ps' qs' c1 c2 c3 c4 n up dn lf rt bo ow) (hn:ps.length=n) (hl:ps.length=qs.length) (P' Q' X Y hp hq:Nat)
  (eP:P'=vl 18446744073709551616 ps + 18446744073709551616^n*hp) (eQ:Q'=vl 18446744073709551616 qs + 18446744073709551616^n*hq) (eX:X+c2*Q'=c1*P') (eY:Y+c3*P'=c4*Q') (hX:X < 18446744073709551616^n) (hY:Y < 18446744073709551616^n):vl 18446744073709551616 ps'=X∧vl 18446744073709551616 qs'=Y:=by
 subst hn
 exact h.fin hl P' Q' X Y hp hq eP eQ eX eY hX hY
theorem zye (vx vy:Value) (X Y:Nat) (w:World) (hx:Sl .u64 w vx (wd 18446744073709551616 X)) (hy:Sl .u64 w vy (wd 18446744073709551616 Y)) (h2:2≤(wd 18446744073709551616 Y).length) (hn:(wd 18446744073709551616 X).length<(wd 18446744073709551616 Y).length+2) (hle:Y≤X) (hl:(wd 18446744073709551616 X).length<268435456) :
  Calls prog 185 #[vx,vy] w fun e w'=>∃ (xx xy yx yy:Nat) (back:Bool),e=.returned (.agg #[.int .u64 (xx:Int),.int .u64 (xy:Int),.int .u64 (yx:Int),.int .u64 (yy:Int),.bool back])∧xx < 18446744073709551616∧xy < 18446744073709551616∧yx < 18446744073709551616∧yy < 18446744073709551616∧zcy X Y xx xy yx yy back∧But [] w w':=by
 have hlen:=aw hle
 rcases hx.open with ⟨e,-⟩|⟨-,b1,o1,c1,rfl,hc1,-,hcx⟩
 ·rw[e,List.length_nil] at hlen;omega
 rcases hy.open with ⟨e,-⟩|⟨-,b2,o2,c2,rfl,hc2,-,hcy⟩
 ·rw[e] at h2;simp at h2
 obtain⟨m,hm⟩:∃ m,(wd 18446744073709551616 X).length=m+2:=⟨(wd 18446744073709551616 X).length-2,by omega⟩
 have hXp:0<X:=by
  rcases Nat.eq_zero_or_pos X with h | h
  ·subst h;rw[zq] at hm;simp at hm
  ·exact h
 obtain⟨t1,t2,-,-⟩:=zjg X hXp
 have ht:qg X=(wd 18446744073709551616 X)[m+1]?.getD 0:=by unfold qg;rw[hm];rfl
 obtain⟨z1,z2,-,-⟩:=zdk (qg X) t1 t2
 have eX:=qev X m hm
 have lX:=zcj (wd 18446744073709551616 X) m (by omega) (zx (by omega) X)
 have mX:=zx (B:=18446744073709551616) (by omega) X
 have mY:=zx (B:=18446744073709551616) (by omega) Y
 have k1:=hcx (m+1) (by omega)
 have k0:=hcx m (by omega)
 have bx0:=cm mX (by omega:0 < 18446744073709551616) m
 rw[ht] at t1 t2 z1 z2
 obtain⟨ε,e1,e2⟩:=zki ((wd 18446744073709551616 X)[m+1]?.getD 0) ((wd 18446744073709551616 X)[m]?.getD 0) m (lz ((wd 18446744073709551616 X)[m+1]?.getD 0)) _ z1 lX
 rw[← eX] at e1
 have haB:=qpm _ _ _ z1 bx0 z2
 rcases Nat.lt_or_ge (wd 18446744073709551616 Y).length (m+2) with hsh | hsh
 ·have hny:(wd 18446744073709551616 Y).length=m+1:=by omega
  have eY:=qqw Y m hny
  have lY:=zcj (wd 18446744073709551616 Y) m (by omega) mY
  obtain⟨δ,f1,f2⟩:=zki 0 ((wd 18446744073709551616 Y)[m]?.getD 0) m (lz ((wd 18446744073709551616 X)[m+1]?.getD 0)) _ z1 lY
  rw[← eY] at f1
  rw[Nat.zero_mul] at f1
  have hda:=qfk _ _ _ _ _ X Y e1 f1 e2 hle
  exact zvn b1 o1 c1 b2 o2 c2 _ _ w ((wd 18446744073709551616 X)[m+1]?.getD 0) ((wd 18446744073709551616 X)[m]?.getD 0) 0 ((wd 18446744073709551616 Y)[m]?.getD 0) _ (0+(wd 18446744073709551616 Y)[m]?.getD 0/2^(64-lz ((wd 18446744073709551616 X)[m+1]?.getD 0))) (lz ((wd 18446744073709551616 X)[m+1]?.getD 0)) m X Y hm hny (by omega) k1 k0 (fun h=>by omega) (hcy m (by omega)) t1 t2 bx0 (by omega) (cm mY (by omega) m) z1 (by show _=_;rfl) (by show _=_;rfl) (by show _=_;rw[if_neg (by omega)]) z2 (fun h=>by omega) haB (Nat.lt_of_le_of_lt hda haB) hda (fun a b xx xy yx yy back h=>zcy.of h X Y _ ε δ e1 f1 e2 f2) hc1 hc2
 ·have hny:(wd 18446744073709551616 Y).length=m+2:=by omega
  have eY:=qev Y m hny
  have lY:=zcj (wd 18446744073709551616 Y) m (by omega) mY
  obtain⟨δ,f1,f2⟩:=zki ((wd 18446744073709551616 Y)[m+1]?.getD 0) ((wd 18446744073709551616 Y)[m]?.getD 0) m (lz ((wd 18446744073709551616 X)[m+1]?.getD 0)) _ z1 lY
  rw[← eY] at f1
  have hda:=qfk _ _ _ _ _ X Y e1 f1 e2 hle
  exact zvm b1 o1 c1 b2 o2 c2 _ _ w ((wd 18446744073709551616 X)[m+1]?.getD 0) ((wd 18446744073709551616 X)[m]?.getD 0) ((wd 18446744073709551616 Y)[m+1]?.getD 0) ((wd 18446744073709551616 Y)[m]?.getD 0) _ _ (lz ((wd 18446744073709551616 X)[m+1]?.getD 0)) m X Y hm hny (by omega) k1 k0 (fun _=>hcy (m+1) (by omega)) (hcy m (by omega)) t1 t2 bx0 (cm mY (by omega) _) (cm mY (by omega) m) z1 (by show _=_;rfl) (by show _=_;rfl) (by show _=_;rw[if_pos hny]) z2 (fun _=>Nat.lt_of_le_of_lt (Nat.le_trans (Nat.le_add_right _ _) hda) haB) haB (Nat.lt_of_le_of_lt hda haB) hda (fun a b xx xy yx yy back h=>zcy.of h X Y _ ε δ e1 f1 e2 f2) hc1 hc2
def Less (lo:Nat) (w:World) (X Y:Nat) (e:Ending) (w':World):Prop:=∃ v1 v2 X' Y',e=.returned (.tuple #[v1,v2])∧zue lo w' v1 v2 X' Y'∧Y'≤X'∧Y' < Y∧X'≤X∧Nat.gcd X' Y'=Nat.gcd X Y∧∃ l:List Nat,(∀ x ∈ l,lo≤x)∧But l w w'
theorem zww (X Y:Nat):Nat.gcd Y (X%Y)=Nat.gcd X Y:=by rw[Nat.gcd_comm X Y,Nat.gcd_rec Y X,Nat.gcd_comm]
theorem qgb (lo:Nat) (vx vy:Value) (X Y xx xy yx yy:Nat) (back:Bool) (w:World) (hp:zue lo w vx vy X Y) (h2:2≤(wd 18446744073709551616 Y).length) (hle:Y≤X) (hl:(wd 18446744073709551616 X).length<1073741824) (hxx:xx < 18446744073709551616) (hxy:xy < 18446744073709551616) (hyx:yx < 18446744073709551616) (hyy:yy < 18446744073709551616) (hs:zcy X Y xx xy yx yy back) (hne:xy≠0) :
  Calls prog 186 #[.agg #[.int .u64 (xx:Int),.int .u64 (xy:Int),.int .u64 (yx:Int),.int .u64 (yy:Int),.bool back],vx,vy] w fun e w'=>Less lo w X Y e w':=by
 have hlen:=aw hle
 rcases hs with h0|⟨X',Y',hrel,hlt,hXY,hg⟩
 ·exact absurd h0 hne
 have mX:=zx (B:=18446744073709551616) (by omega) X
 have mY:=zx (B:=18446744073709551616) (by omega) Y
 rcases hp.s1.open with ⟨e,-⟩|⟨-,g1,o1,c1,rfl,hc1,-,-⟩
 ·rw[e,List.length_nil] at hlen;omega
 rcases hp.s2.open with ⟨e,-⟩|⟨-,g2,o2,c2,rfl,hc2,-,-⟩
 ·rw[e] at h2;simp at h2
 have hap:g1≠g2:=hp.ap _ _ _ _ _ _ _ _ rfl rfl
 obtain⟨l1,f1⟩:=hp.o1 _ _ _ _ rfl
 obtain⟨l2,f2⟩:=hp.o2 _ _ _ _ rfl
 have s1:=hp.s1.seg f1
 have s2:=hp.s2.seg f2
 have sP:=s1.sub 0 (wd 18446744073709551616 Y).length (by omega)
 rw[List.drop_zero,Nat.add_zero] at sP
 have lP:((wd 18446744073709551616 X).take (wd 18446744073709551616 Y).length).length=(wd 18446744073709551616 Y).length:=by rw[List.length_take];omega
 have eP:=tu (wd 18446744073709551616 X) (wd 18446744073709551616 Y).length hlen
 rw[jg (by omega)] at eP
 have eQ:Y=vl 18446744073709551616 (wd 18446744073709551616 Y) + 18446744073709551616^(wd 18446744073709551616 Y).length*0:=by rw[jg (by omega)];omega
 have hYl:=zht Y
 have mP:∀ x ∈ (wd 18446744073709551616 X).take (wd 18446744073709551616 Y).length,x < 18446744073709551616:=fun x hx=>mX x (List.mem_of_mem_take hx)
 cases back
 ·simp only[Bool.false_eq_true,if_false] at hrel
  refine (qga g1 o1 c1 g2 o2 c2 _ _ ((wd 18446744073709551616 X).take (wd 18446744073709551616 Y).length) (wd 18446744073709551616 Y) w xx xy yx yy hxx hxy hyx hyy hap sP s2 lP rfl (by omega) hlen hc1 hc2 hl mP mY X' Y' (fun ps' qs' u d l r b o h=>?_)).mono ?_
  ·exact h.fin' lP lP X Y X' Y' _ 0 eP eQ hrel.1 hrel.2 (by omega) (by omega)
  ·rintro e w' ⟨v1,v2,rfl,h1,h2',hb,ho1,ho2⟩
   exact⟨v1,v2,X',Y',rfl,⟨h1,h2',ho1.own l1,ho2.own l2,fun b off n c b' off' n' c' e1 e2=>by rw[(ho1 _ _ _ _ e1).1,(ho2 _ _ _ _ e2).1];exact hap⟩,by omega,by omega,by omega,hg,[g1,g2],fun x hx=>by simp at hx;rcases hx with rfl|rfl <;> assumption,hb⟩
 ·simp only[if_true] at hrel
  refine (qch g1 o1 c1 g2 o2 c2 _ _ (wd 18446744073709551616 Y) ((wd 18446744073709551616 X).take (wd 18446744073709551616 Y).length) w xx xy yx yy hxx hxy hyx hyy hap sP s2 rfl lP (by omega) hlen hc1 hc2 hl mY mP X' Y' (fun ps' qs' u d l r b o h=>?_)).mono ?_
  ·exact h.fin' rfl lP.symm Y X X' Y' 0 _ eQ eP hrel.1 hrel.2 (by omega) (by omega)
  ·rintro e w' ⟨v1,v2,rfl,h1,h2',hb,ho1,ho2⟩
   exact⟨v1,v2,X',Y',rfl,⟨h1,h2',ho1.own l2,ho2.own l1,fun b off n c b' off' n' c' e1 e2=>by rw[(ho1 _ _ _ _ e1).1,(ho2 _ _ _ _ e2).1];exact hap.symm⟩,by omega,by omega,by omega,hg,[g1,g2],fun x hx=>by simp at hx;rcases hx with rfl|rfl <;> assumption,hb⟩
theorem zno (vx vy:Value) (X Y n:Nat) (w:World) (hx:Sl .u64 w vx (wd 18446744073709551616 X)) (hy:Sl .u64 w vy (wd 18446744073709551616 Y)) (hY:0<Y / 18446744073709551616^n) (hD1:si (X / 18446744073709551616^n / 18446744073709551616^n) (Y / 18446744073709551616^n)) (hD2:si (X / 18446744073709551616^n%Y) (Y / 18446744073709551616^n)) (hl:(wd 18446744073709551616 X).length+(wd 18446744073709551616 Y).length+n<8388608) :
  Calls prog 200 #[vx,vy,.int .i64 (n:Int)] w fun e w'=>∃ v1 v2,e=.returned (.tuple #[v1,v2])∧Sl .u64 w' v1 (wd 18446744073709551616 (X/Y))∧Sl .u64 w' v2 (wd 18446744073709551616 (X%Y))∧But [] w w'∧xw w vx w' v2:=by
 have hP:0 < 18446744073709551616^n:=Nat.pow_pos (by omega)
 have hY0:0<Y:=by
  rcases Nat.eq_zero_or_pos Y with h | h
  ·rw[h,Nat.zero_div] at hY;omega
  ·exact h
 obtain⟨h0,hh0⟩:∃ h0,h0=X / 18446744073709551616^n/Y:=⟨_,rfl⟩
 obtain⟨r0,hr0⟩:∃ r0,r0=X / 18446744073709551616^n%Y:=⟨_,rfl⟩
 obtain⟨Z,hZ⟩:∃ Z,Z=r0 * 18446744073709551616^n+X % 18446744073709551616^n:=⟨_,rfl⟩
 have e1:X / 18446744073709551616^n=h0*Y+r0:=by rw[hh0,hr0,Nat.mul_comm];exact (Nat.div_add_mod _ _).symm
 have e2:r0 * 18446744073709551616^n+X % 18446744073709551616^n=Z/Y*Y+Z%Y:=by rw[← hZ,Nat.mul_comm];exact (Nat.div_add_mod _ _).symm
 obtain⟨f1,f2⟩:=halves X Y (18446744073709551616^n) h0 r0 (Z/Y) (Z%Y) e1 e2 (Nat.mod_lt _ hY0)
 have hZP:Z / 18446744073709551616^n=r0:=by rw[hZ,Nat.mul_comm,Nat.mul_add_div hP,Nat.div_eq_of_lt (Nat.mod_lt _ hP),Nat.add_zero]
 have rl:(wd 18446744073709551616 r0).length≤(wd 18446744073709551616 Y).length:=aw (by rw[hr0];exact Nat.le_of_lt (Nat.mod_lt _ hY0))
 have hl1:(wd 18446744073709551616 (X / 18446744073709551616^n)).length≤(wd 18446744073709551616 X).length:=aw (Nat.div_le_self _ _)
 have zl:(wd 18446744073709551616 Z).length≤(wd 18446744073709551616 Y).length+n:=by
  have:=dm n Z
  rw[hZP] at this
  omega
 have hhl:(wd 18446744073709551616 h0).length≤(wd 18446744073709551616 X).length:=aw (by rw[hh0];exact Nat.le_trans (Nat.div_le_self _ _) (Nat.div_le_self _ _))
 have hll:(wd 18446744073709551616 (Z/Y)).length≤(wd 18446744073709551616 Y).length+n:=Nat.le_trans (aw (Nat.div_le_self _ _)) zl
 rw[← hr0] at hD2
 have HI:=af (zbg vx X n w hx (by omega) (by omega))
 have DM1:Hid (∀ W v,Sl .u64 W v (wd 18446744073709551616 (X / 18446744073709551616^n))→Sl .u64 W vy (wd 18446744073709551616 Y)→Calls prog 209 #[v,vy,.int .i64 (n:Int)] W fun e w'=>∃ v1 v2,e=.returned (.tuple #[v1,v2])∧Sl .u64 w' v1 (wd 18446744073709551616 h0)∧Sl .u64 w' v2 (wd 18446744073709551616 r0)∧But [] W w'):=fun W v h1 h2=>by
  rw[hh0,hr0]
  exact (zgq v vy _ Y n W h1 h2 hY hD1 (by omega)).mono fun e w' ⟨a,b,h3,h4,h5,h6,_⟩=>⟨a,b,h3,h4,h5,h6⟩
 have LX:=af (fun W (h:Sl .u64 W vx (wd 18446744073709551616 X))=>znj vx X n W h (by omega) (by omega))
 have AB:Hid (∀ W v1 v2,Sl .u64 W v1 (wd 18446744073709551616 r0)→Sl .u64 W v2 (wd 18446744073709551616 (X % 18446744073709551616^n))→Calls prog 208 #[v1,.int .i64 (n:Int),v2] W fun e w'=>∃ v',e=.returned v'∧Sl .u64 w' v' (wd 18446744073709551616 Z)∧But [] W w'∧(v'=v2∨Own W.heap.size w' v')):=fun W v1 v2 h1 h2=>by
  rw[hZ]
  exact (zea v1 v2 r0 _ n W h1 h2 (Nat.mod_lt _ hP) (by omega)).mono fun e w' ⟨v',he,hv,hb,hp⟩=>⟨v',he,hv,hb,hp.elim (fun h=>.inl h.2) .inr⟩
 have DM2:Hid (∀ W v,Sl .u64 W v (wd 18446744073709551616 Z)→Sl .u64 W vy (wd 18446744073709551616 Y)→Calls prog 209 #[v,vy,.int .i64 (n:Int)] W fun e w'=>∃ v1 v2,e=.returned (.tuple #[v1,v2])∧Sl .u64 w' v1 (wd 18446744073709551616 (Z/Y))∧Sl .u64 w' v2 (wd 18446744073709551616 (Z%Y))∧But [] W w'∧xw W v w' v2):=fun W v h1 h2=>zgq v vy Z Y n W h1 h2 hY (by rw[hZP];exact hD2) (by omega)
 have AH:Hid (∀ W v1,Sl .u64 W v1 (wd 18446744073709551616 h0)→Calls prog 208 #[v1,.int .i64 (n:Int),.slice none 0 0] W fun e w'=>∃ v',e=.returned v'∧Sl .u64 w' v' (wd 18446744073709551616 (h0 * 18446744073709551616^n))∧But [] W w'):=fun W v1 h1=>by
  refine (zea v1 (.slice none 0 0) h0 0 n W h1 (by rw[zq];exact Sl.nil _ _) hP (by omega)).mono fun e w' ⟨v',he,hv,hb,_⟩=>⟨v',he,?_,hb⟩
  rw[Nat.add_zero] at hv
  exact hv
 have ahl:(wd 18446744073709551616 (h0 * 18446744073709551616^n)).length≤(wd 18446744073709551616 X).length+(n+1):=by
  have h1:=jq h0 (18446744073709551616^n)
  have h2:(wd 18446744073709551616 (18446744073709551616^n)).length≤n+1:=aj (by omega) _ _ (Nat.pow_lt_pow_right (by omega) (by omega))
  omega
 have AD:Hid (∀ W v1 v2,Sl .u64 W v1 (wd 18446744073709551616 (h0 * 18446744073709551616^n))→Sl .u64 W v2 (wd 18446744073709551616 (Z/Y))→Calls prog 136 #[v1,v2] W fun e w'=>∃ v',e=.returned v'∧Sl .u64 w' v' (wd 18446744073709551616 (X/Y))∧But [] W w'):=fun W v1 v2 h1 h2=>by
  rw[f1]
  exact zey v1 v2 _ _ W h1 h2 (by omega) (by omega)
 have HX:=af hx
 have HY:=af hy
 have FE:=af f2
 obtain⟨a1,c1,rfl,-,-⟩:=hx
 obtain⟨a2,c2,rfl,-,-⟩:=hy
 clear hP hY hD1 hD2 hh0 hr0 hZ e1 e2 f1 f2 hZP rl hl1 zl hhl hll ahl hl hY0
 generalize (wd 18446744073709551616 X).length=nx at *
 generalize (wd 18446744073709551616 Y).length=ny at *
 generalize h0 * 18446744073709551616^n=H at *
 go_enter func200,ntmps200
 go_wp2_with fail
 refine (ae HI).mono ?_
 rintro e1 w1 ⟨v1,rfl,hv1,hw⟩
 obtain rfl:=hw.symm
 clear hw
 have HV1:=af hv1
 clear hv1 HI
 go_wp2_with fail
 refine (ae DM1 _ _ (ae HV1) (ae HY)).mono ?_
 rintro e2 w2 ⟨v2,v3,rfl,hv2,hv3,hb2⟩
 have HV2:=af hv2
 have HV3:=af hv3
 have B2:=af hb2
 clear hv2 hv3 hb2 HV1 DM1
 go_wp2_with fail
 refine (ae LX _ ((ae HX).ah (ae B2))).mono ?_
 rintro e3 w3 ⟨v4,rfl,hv4,hw,he4⟩
 obtain rfl:=hw.symm
 clear hw
 have HV4:=af hv4
 have HE4:Hid (xw w (.slice a1 nx c1) _ v4):=he4.pre (ae B2).size
 clear hv4 he4 LX
 go_wp2_with fail
 refine (ae AB _ _ _ (ae HV3) (ae HV4)).mono ?_
 rintro e4 w4 ⟨v5,rfl,hv5,hb4,hp4⟩
 have HV5:=af hv5
 have HE5:Hid (xw w (.slice a1 nx c1) w4 v5):=by
  rcases hp4 with rfl | ho
  ·exact (ae HE4).but (ae HV4) hb4
  ·exact (xw.zis ho).pre (ae B2).size
 have B4:=af ((ae B2).trans' hb4)
 have HV2':=af ((ae HV2).ah hb4)
 clear hv5 hb4 hp4 HE4 HV3 HV4 AB HV2 B2
 go_wp2_with fail
 refine (ae DM2 _ _ (ae HV5) ((ae HY).ah (ae B4))).mono ?_
 rintro e5 w5 ⟨v6,v7,rfl,hv6,hv7,hb5,he7⟩
 have HE7:Hid (xw w (.slice a1 nx c1) w5 v7):=(ae HE5).trans (ae HV5) hb5 (ae B4).size he7
 have HV6:=af hv6
 have HV7:=af hv7
 have B5:=af ((ae B4).trans' hb5)
 have HV25:=af ((ae HV2').ah hb5)
 clear hv6 hv7 hb5 he7 HE5 HV5 HV2' B4 DM2
 go_wp2_with fail
 first
  | refine (ae AH _ _ (ae HV25)).mono ?_
  | trace_state
 rintro e6 w6 ⟨v8,rfl,hv8,hb6⟩
 have HV8:=af hv8
 have B6:=af ((ae B5).trans' hb6)
 have HV66:=af ((ae HV6).ah hb6)
 have HV76:=af ((ae HV7).ah hb6)
 have HE76:=af ((ae HE7).but (ae HV7) hb6)
 clear hv8 hb6 HE7 HV6 HV7 HV25 B5 AH
 go_wp2_with fail
 refine (ae AD _ _ _ (ae HV8) (ae HV66)).mono ?_
 rintro e7 w7 ⟨v9,rfl,hv9,hb7⟩
 have FIN:=af (And.intro hv9 (And.intro ((ae HV76).ah hb7) (And.intro ((ae B6).trans' hb7) ((ae HE76).but (ae HV76) hb7))))
 clear hv9 hb7 HE76 HV8 HV66 HV76 B6 AD
 go_wp2
 go_ret2
 exact⟨_,_,rfl,(ae FIN).1,by rw[ae FE];exact (ae FIN).2.1,(ae FIN).2.2⟩
theorem qzf (rs qs:List Nat) (i:Nat) (hl:i+qs.length≤rs.length) (hz:∀ j,i≤j→j<i+qs.length→rs[j]?.getD 0=0):vl 18446744073709551616 (rs.take i++qs++rs.drop (i+qs.length))=vl 18446744073709551616 rs + 18446744073709551616^i*vl 18446744073709551616 qs:=by
 have hti:(rs.take i).length=i:=by rw[List.length_take];omega
 have hmid:((rs.drop i).take qs.length).length=qs.length:=by rw[List.length_take,List.length_drop];omega
 have hz0:vl 18446744073709551616 ((rs.drop i).take qs.length)=0:=zeo 18446744073709551616 _ (fun j hj=>by
  rw[hmid] at hj
  rw[List.getElem?_take_of_lt hj,List.getElem?_drop]
  exact hz (i+j) (by omega) (by omega))
 have e:rs=rs.take i++(rs.drop i).take qs.length++rs.drop (i+qs.length):=by
  rw[List.append_assoc,← List.drop_drop,List.take_append_drop,List.take_append_drop]
 have h2:=congrArg (vl 18446744073709551616) e
 rw[z8,z8,List.length_append,hti,hmid,hz0] at h2
 rw[z8,z8,List.length_append,hti]
 omega
structure zfh (X Y nx top:Nat) (rs:List Nat):Prop where
 len:rs.length=nx
 mem:∀ x ∈ rs,x < 18446744073709551616
 zero:∀ j,j<top→rs[j]?.getD 0=0
 val:vl 18446744073709551616 rs=18446744073709551616^top*(X / 18446744073709551616^top/Y)
theorem zfh.start (X Y nx top:Nat) (h:nx≤top) (hX:X < 18446744073709551616^nx):zfh X Y nx top (List.replicate nx 0):=by
 refine⟨by simp,fun x hx=>by rw[List.mem_replicate] at hx;omega,fun j _=>by rw[List.getElem?_replicate];split <;> rfl,?_⟩
 have h1:X / 18446744073709551616^top=0:=Nat.div_eq_of_lt (Nat.lt_of_lt_of_le hX (Nat.pow_le_pow_right (by omega) h))
 rw[j5,h1,Nat.zero_div,Nat.mul_zero]
theorem zun (X Y i n:Nat) (hY0:0<Y) (hY:Y < 18446744073709551616^n) (D:Nat) (hD:D=X / 18446744073709551616^(i+n)%Y * 18446744073709551616^n+X / 18446744073709551616^i % 18446744073709551616^n) :
  X / 18446744073709551616^i/Y=X / 18446744073709551616^(i+n)/Y * 18446744073709551616^n+D/Y∧X / 18446744073709551616^i%Y=D%Y∧D/Y < 18446744073709551616^n∧D/Y≤X / 18446744073709551616^i∧D < 18446744073709551616^(n+n):=by
 have hP:0 < 18446744073709551616^n:=Nat.pow_pos (by omega)
 have e1:X / 18446744073709551616^(i+n)=X / 18446744073709551616^i / 18446744073709551616^n:=by rw[Nat.pow_add,Nat.div_div_eq_div_mul]
 rw[e1] at hD ⊢
 generalize X / 18446744073709551616^i=A at *
 have hr:=Nat.mod_lt (A / 18446744073709551616^n) hY0
 have hp:=Nat.mod_lt A hP
 obtain⟨f1,f2⟩:=halves A Y (18446744073709551616^n) (A / 18446744073709551616^n/Y) (A / 18446744073709551616^n%Y) (D/Y) (D%Y) (by rw[Nat.mul_comm];exact (Nat.div_add_mod _ _).symm) (by rw[← hD,Nat.mul_comm (D/Y)];exact (Nat.div_add_mod _ _).symm) (Nat.mod_lt _ hY0)
 have hDl:D<Y * 18446744073709551616^n:=by
  have h1:(A / 18446744073709551616^n%Y+1) * 18446744073709551616^n≤Y * 18446744073709551616^n:=Nat.mul_le_mul_right _ hr
  rw[Nat.succ_mul] at h1
  omega
 refine⟨f1,f2,Nat.div_lt_of_lt_mul hDl,?_,?_⟩
 ·have:A/Y≤A:=Nat.div_le_self _ _
  omega
 ·rw[Nat.pow_add]
  exact Nat.lt_of_lt_of_le hDl (Nat.mul_le_mul_right _ (Nat.le_of_lt hY))
theorem zfh.step {X Y nx i n:Nat} {rs:List Nat} (h:zfh X Y nx (i+n) rs) (hY0:0<Y) (hY:Y < 18446744073709551616^n) (D:Nat) (hD:D=X / 18446744073709551616^(i+n)%Y * 18446744073709551616^n+X / 18446744073709551616^i % 18446744073709551616^n) (hl:i+(wd 18446744073709551616 (D/Y)).length≤nx) :
  zfh X Y nx i (rs.take i++wd 18446744073709551616 (D/Y)++rs.drop (i+(wd 18446744073709551616 (D/Y)).length)):=by
 obtain⟨f1,-,f3,-,-⟩:=zun X Y i n hY0 hY D hD
 have hq:(wd 18446744073709551616 (D/Y)).length≤n:=aj (by omega) _ _ f3
 have hlen:=h.len
 have hti:(rs.take i).length=i:=by rw[List.length_take];omega
 refine⟨?_,?_,?_,?_⟩
 ·rw[List.length_append,List.length_append,hti,List.length_drop];omega
 ·intro x hx
  rw[List.mem_append,List.mem_append] at hx
  rcases hx with (hx | hx) | hx
  ·exact h.mem x (List.mem_of_mem_take hx)
  ·exact zx (by omega) _ x hx
  ·exact h.mem x (List.mem_of_mem_drop hx)
 ·intro j hj
  rw[List.append_assoc,List.getElem?_append_left (by rw[hti];exact hj),List.getElem?_take_of_lt hj]
  exact h.zero j (by omega)
 ·rw[qzf rs _ i (by omega) (fun j _ hj=>h.zero j (by omega)),h.val,jg (by omega),f1,Nat.pow_add,Nat.mul_add]
  congr 1
  rw[Nat.mul_assoc,Nat.mul_comm (18446744073709551616^n)]
theorem xw.over {w w1 w2:World} {vx v1:Value} {xs:List Nat} {g:Nat} (h:xw w vx w1 v1) (hs:Sl .u64 w1 v1 xs) (hb:But [g] w1 w2) (ho:Off g v1):xw w vx w2 v1:=fun b off n c e=>by
 rcases h b off n c e with ⟨h1,h2⟩ | h1
 ·refine .inl ⟨h1,fun i hi=>?_⟩
  have hn:=hs.zwr e
  have hl:=hs.lt (by omega) b off n c e
  rw[hb.frozen (p:=⟨b,off+i,none⟩) hl (by have:=ho b off n c e;simpa using this)]
  exact h2 i hi
 ·exact .inr h1
theorem xw.off {w w1:World} {vx v1:Value} {g:Nat} (h:xw w vx w1 v1) (hg:g<w.heap.size) (hx:Off g vx):Off g v1:=fun b off n c e=>by
 rcases h b off n c e with ⟨h1,-⟩|⟨o0,n0,c0,e0,-,-⟩
 ·omega
 ·exact hx _ _ _ _ e0
theorem qpq {w:World} {g nx i:Nat} {rs qs:List Nat} {vq:Value} (hs:Seg w g 0 rs) (hl:rs.length=nx) (hq:Sl .u64 w vq qs) (hi:i+qs.length≤nx):∃ w',(∀ ty,(Builtin.copy_ #[91,92] ty #[.slice (some ⟨g,i,none⟩) (nx-i) (nx-i),vq]).run prog w=.ok (goInt qs.length) w')∧Hid (Seg w' g 0 (rs.take i++qs++rs.drop (i+qs.length))∧But [g] w w'):=by
 have S2:=hs.sub i (nx-i) (by omega)
 have hsl:((rs.drop i).take (nx-i)).length=nx-i:=by rw[List.length_take,List.length_drop,hl];omega
 obtain⟨w3,hcp,HC⟩:=yh (P:=prog) w 91 92 24 underlying91 zao g (0+i) (nx-i) (nx-i) vq ((rs.drop i).take (nx-i)) qs S2 hsl.symm hq (by rw[hsl];omega)
 have S7:=(ae HC).1.sub 0 qs.length (by rw[List.length_append];omega)
 rw[List.drop_zero,List.take_left,Nat.add_zero] at S7
 have SW:=hs.whole (ae HC).2 S7 rfl (by omega)
 rw[Nat.zero_add] at SW hcp
 exact⟨w3,hcp,SW,(ae HC).2.but⟩
def PartsAt (W:World) (vx:Value) (X Y nx n g k:Nat) (vr vi:Value) (wr:World):Prop :=
 ∃ (z:Int) (rs:List Nat),vi=.int .i64 z∧z=(k:Int)-(n:Int)∧zfh X Y nx k rs∧Seg wr g 0 rs∧Sl .u64 wr vr (wd 18446744073709551616 (X / 18446744073709551616^k%Y))∧xw W vx wr vr∧But [g] W wr∧k<nx+n∧n ∣ k
theorem zpc (vx vy:Value) (X Y:Nat) (w:World) (hx:Sl .u64 w vx (wd 18446744073709551616 X)) (hy:Sl .u64 w vy (wd 18446744073709551616 Y)) (hY:0<Y) (hX:0<X) (hD:∀ D,(wd 18446744073709551616 D).length≤(wd 18446744073709551616 Y).length+(wd 18446744073709551616 Y).length→si D Y) (hl:(wd 18446744073709551616 X).length+(wd 18446744073709551616 Y).length<4194304) :
  Calls prog 199 #[vx,vy] w fun e w'=>∃ v1 v2,e=.returned (.tuple #[v1,v2])∧Sl .u64 w' v1 (wd 18446744073709551616 (X/Y))∧Sl .u64 w' v2 (wd 18446744073709551616 (X%Y))∧But [] w w'∧xw w vx w' v2:=by
 have hnp:0<(wd 18446744073709551616 Y).length:=by rw[Nat.pos_iff_ne_zero];intro e;rw[zt (by omega)] at e;omega
 have hxp:0<(wd 18446744073709551616 X).length:=by rw[Nat.pos_iff_ne_zero];intro e;rw[zt (by omega)] at e;omega
 obtain⟨nx,hnx⟩:∃ nx,nx=(wd 18446744073709551616 X).length:=⟨_,rfl⟩
 obtain⟨n,hn⟩:∃ n,n=(wd 18446744073709551616 Y).length:=⟨_,rfl⟩
 have hYP:Y < 18446744073709551616^n:=by rw[hn];exact zht Y
 have hXP:X < 18446744073709551616^nx:=by rw[hnx];exact zht X
 have offx:Off w.heap.size vx:=zbe hx hxp _ (Nat.le_refl _)
 have offy:Off w.heap.size vy:=zbe hy hnp _ (Nat.le_refl _)
 rw[← hnx,← hn] at hl
 rw[← hnx] at hxp
 rw[← hn] at hnp hD
 have bM:=ni w nx 24
 have SM:=Seg.made w nx 24
 obtain⟨d,hd⟩:∃ d,d=(nx-1)/n:=⟨_,rfl⟩
 obtain⟨z0,hz0⟩:∃ z0,z0=d*n:=⟨_,rfl⟩
 have hz1:z0≤nx-1:=by rw[hz0,hd];exact Nat.div_mul_le_self _ _
 have hz2:nx≤z0+n:=by
  have h1:=Nat.div_add_mod (nx-1) n
  have h2:=Nat.mod_lt (nx-1) hnp
  rw[← hd,Nat.mul_comm,← hz0] at h1
  omega
 have hdl:d≤nx:=by rw[hd];exact Nat.le_trans (Nat.div_le_self _ _) (Nat.sub_le _ _)
 have hmk:=fun wx=>om wx nx (by omega)
 obtain⟨W,hW⟩:∃ W,W=w.alloc (.cells (madeCells #[.int .u64 0] nx) 24):=⟨_,rfl⟩
 have hgW:w.heap.size<W.heap.size:=by rw[hW];simp
 rw[← hW] at bM SM
 have A0:Hid (PartsAt W vx X Y nx n w.heap.size (z0+n) (.slice none 0 0) (.int .i64 (z0:Int)) W):=by
  refine⟨(z0:Int),_,rfl,by omega,zfh.start X Y nx (z0+n) hz2 hXP,SM,?_,xw.nil _ _ _ _ _,But.refl _ _,by omega,?_⟩
  ·rw[Nat.div_eq_of_lt (Nat.lt_of_lt_of_le hXP (Nat.pow_le_pow_right (by omega) hz2)),Nat.zero_mod,zq]
   exact Sl.nil _ _
  ·rw[hz0];exact⟨d+1,by rw[Nat.mul_comm,Nat.mul_succ]⟩
 have SX:=af (hx.ah bM)
 have SY:=af (hy.ah bM)
 have OX:=af offx
 have OY:=af offy
 have BM:=af bM
 have GW:=af hgW
 have HD:=af hD
 have HYP:=af (And.intro hY hYP)
 have e1:((nx:Int)-1)/(n:Int)=(d:Int):=by rw[hd,Int.natCast_ediv,Int.natCast_sub hxp];rfl
 have e2:(d:Int)*(n:Int)=(z0:Int):=by rw[hz0,Int.natCast_mul]
 have e3:wrap64 (d:Int)=(d:Int):=by unfold wrap64;omega
 have e4:wrap64 (z0:Int)=(z0:Int):=by unfold wrap64;omega
 have n0:((n:Int)==0)=false:=beq_eq_false_iff_ne.2 (by omega)
 have HW:=af hW
 obtain⟨a1,c1,rfl,-,-⟩:=hx
 obtain⟨a2,c2,rfl,-,-⟩:=hy
 rw[← hnx] at A0 SX OX
 rw[← hn] at SY OY
 rw[← hnx,← hn]
 have NX:=af hnx.symm
 clear hnx hn hD hX offx offy bM SM hd hz0 hW hYP hXP hY hgW
 go_enter func199,ntmps199
 go_wp2_with fail
 rw[← ae HW]
 go_loopg [9,10] (z0+n) (fun k vr vi wr=>Hid (PartsAt W (.slice a1 nx c1) X Y nx n w.heap.size k vr vi wr))
 case atStart=>exact A0
 case round =>
  clear A0 e1 e2 e3 e4
  obtain⟨z,rs,rfl,hz,hI,hS,hR,hH,hB,hk,hdv⟩:=ae hrel
  clear hrel
  obtain⟨hY,hYP⟩:=ae HYP
  have hlen:=hI.len
  by_cases hz0:z<0
  ·have hgk:gk=0:=Nat.eq_zero_of_dvd_of_lt hdv (by omega)
   subst hgk
   have hv:vl 18446744073709551616 rs=X/Y:=by rw[hI.val,Nat.pow_zero,Nat.one_mul,Nat.div_one]
   rw[Nat.pow_zero,Nat.div_one] at hR
   have TR:=af (qp (.slice (some ⟨w.heap.size,0,none⟩) nx nx) rs wr (by have:=hS.sl nx (by omega);rw[hlen] at this;exact this) hI.mem (by omega))
   rw[hv] at TR
   have FIN:=af (And.intro hR (And.intro ((ae BM).trans hB (fun x hx=>by simp at hx;subst hx;exact .inr (Nat.le_refl _))) (hH.pre (ae BM).size)))
   clear hI hS hR hH hB hdv hlen hv hY hYP hz
   go_wp2_with fail
   refine (ae TR).mono ?_
   rintro e1 w1 ⟨v1,rfl,hv1,hw,-⟩
   obtain rfl:=hw.symm
   clear hw
   have HV1:=af hv1
   clear hv1 TR
   go_wp2
   go_ret2
   exact⟨_,_,rfl,ae HV1,(ae FIN).1,(ae FIN).2.1,(ae FIN).2.2⟩
  ·obtain⟨i,rfl⟩:∃ i:Nat,z=(i:Int):=⟨z.toNat,by omega⟩
   have hki:gk=i+n:=by omega
   subst hki
   obtain⟨D,hDD⟩:∃ D,D=X / 18446744073709551616^(i+n)%Y * 18446744073709551616^n+X / 18446744073709551616^i % 18446744073709551616^n:=⟨_,rfl⟩
   obtain⟨f1,f2,f3,f4,f5⟩:=zun X Y i n hY hYP D hDD
   have hq1:(wd 18446744073709551616 (D/Y)).length≤nx-i:=by
    have h1:=aw f4
    have h2:=dm i X
    rw[ae NX] at h2
    omega
   have hrl:(wd 18446744073709551616 (X / 18446744073709551616^(i+n)%Y)).length≤n:=aj (by omega) _ _ (Nat.lt_trans (Nat.mod_lt _ hY) hYP)
   have hdl:(wd 18446744073709551616 D).length≤n+n:=aj (by omega) _ _ f5
   have hxl:=dm i X
   rw[ae NX] at hxl
   have sx:=(ae SX).but hB (fun b off cap m e=>by have:=ae OX b off m cap e;simpa using this)
   have sy:=(ae SY).but hB (fun b off cap m e=>by have:=ae OY b off m cap e;simpa using this)
   have HI:=af (qdl _ X i wr sx (by omega))
   have LO:=af (fun v1 (h:Sl .u64 wr v1 (wd 18446744073709551616 (X / 18446744073709551616^i)))=>znj v1 _ n wr h (by omega) (by omega))
   have AB:Hid (∀ v2,Sl .u64 wr v2 (wd 18446744073709551616 (X / 18446744073709551616^i % 18446744073709551616^n))→Calls prog 208 #[u9,.int .i64 (n:Int),v2] wr fun e w'=>∃ v',e=.returned v'∧Sl .u64 w' v' (wd 18446744073709551616 D)∧But [] wr w'∧(v'=v2∨Own wr.heap.size w' v')):=fun v2 h=>by
    rw[hDD]
    exact (zea u9 v2 _ _ n wr hR h (Nat.mod_lt _ (Nat.pow_pos (by omega))) (by omega)).mono fun e w' ⟨v',he,hv,hb,hp⟩=>⟨v',he,hv,hb,hp.elim (fun h=>.inl h.2) .inr⟩
   have DV:=af (ae HD D hdl)
   unfold si at DV
   rw[← f2] at DV
   have STEP:=af (hI.step hY hYP D hDD (by omega))
   have KEEP:=af (And.intro hS (And.intro hB (And.intro hlen (And.intro sx sy))))
   have HQ:=af hq1
   have HDV:=af hdv
   have i1:(0:Int)≤(i:Int):=by omega
   have i2:(i:Int)<(nx:Int):=by omega
   have i3:i<nx:=by omega
   obtain⟨ar,cr,rfl,-,-⟩:=hR
   generalize (wd 18446744073709551616 (X / 18446744073709551616^(i+n)%Y)).length=lr at *
   clear hI hS hH hB hdv hlen hY hYP hz hDD f1 f2 f3 f4 f5 hq1 hrl hdl hxl sx sy hz0
   go_wp2_with fail
   refine (ae HI).mono ?_
   rintro e1 w1 ⟨v1,rfl,hv1,hw,he1⟩
   obtain rfl:=hw.symm
   clear hw
   have HV1:=af hv1
   have HE1:=af he1
   clear hv1 he1 HI
   go_wp2_with fail
   refine (ae LO _ (ae HV1)).mono ?_
   rintro e2 w2 ⟨v2,rfl,hv2,hw,he2⟩
   obtain rfl:=hw.symm
   clear hw
   have HV2:=af hv2
   have HE2:=af ((ae HE1).trans (ae HV1) (But.refl _ _) (Nat.le_refl _) he2)
   clear hv2 he2 LO HE1 HV1
   go_wp2_with fail
   refine (ae AB _ (ae HV2)).mono ?_
   rintro e3 w3 ⟨v3,rfl,hv3,hb3,hp3⟩
   have HV3:=af hv3
   have B3:=af hb3
   have HE3:Hid (xw wr (.slice a1 nx c1) w3 v3):=by
    rcases hp3 with rfl | ho
    ·exact (ae HE2).but (ae HV2) hb3
    ·exact xw.zis ho
   clear hv3 hb3 hp3 AB HE2 HV2
   go_wp2_with fail
   refine (ae DV _ _ _ (ae HV3) ((ae KEEP).2.2.2.2.ah (ae B3))).mono ?_
   rintro e4 w4 ⟨v4,v5,rfl,hv4,hv5,hb4,he4⟩
   have b4:=(ae B3).trans' hb4
   have he5:=((ae HE3).trans (ae HV3) hb4 (ae B3).size he4).pre (ae KEEP).2.1.size
   have off5:=he5.off (ae GW) (ae OX)
   obtain⟨w5,hcp,HC⟩:=qpq (i:=i) (nx:=nx) ((ae KEEP).1.ah b4) (ae KEEP).2.2.1 hv4 (by have:=ae HQ;omega)
   have s5:=hv5.but (ae HC).2 (fun b off cap m e=>by have:=off5 b off m cap e;simpa using this)
   have R:Hid (PartsAt W (.slice a1 nx c1) X Y nx n w.heap.size i v5 (.int .i64 ((i:Int)-(n:Int))) w5) :=
    ⟨_,_,rfl,rfl,ae STEP,(ae HC).1,s5,he5.over hv5 (ae HC).2 off5,((ae KEEP).2.1.trans (But.of_nil b4) (fun x hx=>.inl hx)).trans (ae HC).2 (fun x hx=>.inl hx),by omega,(Nat.dvd_add_iff_left (Nat.dvd_refl n)).2 (ae HDV)⟩
   obtain⟨a4,c4,rfl,-,-⟩:=hv4
   clear hv5 hb4 he4 b4 he5 off5 HC s5 HE3 HV3 B3 DV KEEP STEP HDV
   generalize (wd 18446744073709551616 (D/Y)).length=lq at *
   go_wp2
   go_roundg i
   case measure=>omega
   case rel=>exact ae R
theorem zow (X Y:Nat) (hlt:X<Y) (hl:(wd 18446744073709551616 Y).length<268435456):si X Y:=by
 intro vx vy w hx hy
 have hlen:=aw (Nat.le_of_lt hlt)
 have hcmp:=oq vx vy X Y w hx hy (by omega) (by omega)
 rw[zcb hlt] at hcmp
 rw[Nat.div_eq_of_lt hlt,Nat.mod_eq_of_lt hlt,zq]
 have HC:=af hcmp
 have HX:=af hx
 obtain⟨a1,c1,rfl,-,-⟩:=hx
 obtain⟨a2,c2,rfl,-,-⟩:=hy
 clear hcmp
 generalize (wd 18446744073709551616 X).length=nx at *
 generalize (wd 18446744073709551616 Y).length=ny at *
 go_enter func175,ntmps175
 go_wp2_with fail
 refine (ae HC).mono ?_
 rintro e w1 ⟨rfl,q,rfl⟩
 go_wp2
 go_ret2
 exact⟨_,_,rfl,Sl.nil _ _,ae HX,(But.refl _ _).drewN q,xw.self _ _ _⟩
theorem zxe (X Y:Nat) (hle:Y≤X) (h80:80≤(wd 18446744073709551616 Y).length) (hp:(wd 18446744073709551616 Y).length+(wd 18446744073709551616 Y).length<(wd 18446744073709551616 X).length) (hl:(wd 18446744073709551616 X).length+(wd 18446744073709551616 Y).length<4194304) (hD:∀ D,(wd 18446744073709551616 D).length≤(wd 18446744073709551616 Y).length+(wd 18446744073709551616 Y).length→si D Y):si X Y:=by
 intro vx vy w hx hy
 have hY:0<Y:=by
  rcases Nat.eq_zero_or_pos Y with h | h
  ·subst h;rw[zq] at h80;simp at h80
  ·exact h
 have hcmp:=oq vx vy X Y w hx hy (by omega) (by omega)
 have hc0:=zec hle
 generalize zz X Y=r at *
 have HC:=af hcmp
 have LD:=af (fun (W:World) (h1:Sl .u64 W vx (wd 18446744073709551616 X)) (h3:Sl .u64 W vy (wd 18446744073709551616 Y))=>zpc vx vy X Y W h1 h3 hY (by omega) hD hl)
 have HX:=af hx
 have HY:=af hy
 obtain⟨a1,c1,rfl,-,-⟩:=hx
 obtain⟨a2,c2,rfl,-,-⟩:=hy
 clear hcmp hD
 generalize (wd 18446744073709551616 X).length=nx at *
 generalize (wd 18446744073709551616 Y).length=ny at *
 have hr:decide (r<0)=false:=by simp;omega
 go_enter func175,ntmps175
 go_wp2_with fail
 refine (ae HC).mono ?_
 rintro e w1 ⟨rfl,q,rfl⟩
 go_wp2_with fail
 refine (ae LD _ (by exact ae HX) (by exact ae HY)).mono ?_
 rintro e w2 ⟨v1,v2,rfl,h1,h3,h4,h5⟩
 have ALL:=af (And.intro h1 (And.intro h3 (And.intro (((But.refl [] _).drewN q).trans' h4) (h5.pre (w:=w) (Nat.le_refl _)))))
 clear h1 h3 h4 h5 LD HC
 go_wp2
 go_ret2
 exact⟨v1,v2,rfl,(ae ALL).1,(ae ALL).2.1,(ae ALL).2.2.1,(ae ALL).2.2.2⟩
theorem ztv (X Y n:Nat) (hle:Y≤X) (h80:80≤(wd 18446744073709551616 Y).length) (hm:(wd 18446744073709551616 Y).length+80≤(wd 18446744073709551616 X).length) (hp:(wd 18446744073709551616 X).length≤(wd 18446744073709551616 Y).length+(wd 18446744073709551616 Y).length) (hn:n=((wd 18446744073709551616 X).length-(wd 18446744073709551616 Y).length)/2) (hl:(wd 18446744073709551616 X).length+(wd 18446744073709551616 Y).length+n<8388608) (hD1:si (X / 18446744073709551616^n / 18446744073709551616^n) (Y / 18446744073709551616^n)) (hD2:si (X / 18446744073709551616^n%Y) (Y / 18446744073709551616^n)):si X Y:=by
 intro vx vy w hx hy
 have hYn:0<Y / 18446744073709551616^n:=by
  have:=dm n Y
  rcases Nat.eq_zero_or_pos (Y / 18446744073709551616^n) with h | h
  ·rw[h,zq,List.length_nil] at this;omega
  ·exact h
 have hcmp:=oq vx vy X Y w hx hy (by omega) (by omega)
 have hc0:=zec hle
 generalize zz X Y=r at *
 have HC:=af hcmp
 have LD:=af (fun (W:World) (h1:Sl .u64 W vx (wd 18446744073709551616 X)) (h3:Sl .u64 W vy (wd 18446744073709551616 Y))=>zno vx vy X Y n W h1 h3 hYn hD1 hD2 hl)
 have HX:=af hx
 have HY:=af hy
 obtain⟨a1,c1,rfl,-,-⟩:=hx
 obtain⟨a2,c2,rfl,-,-⟩:=hy
 clear hcmp hD1 hD2 hYn
 generalize (wd 18446744073709551616 X).length=nx at *
 generalize (wd 18446744073709551616 Y).length=ny at *
 have hr:decide (r<0)=false:=by simp;omega
 have e1:((nx:Int)-(ny:Int))/2=(n:Int):=by omega
 clear hn
 go_enter func175,ntmps175
 go_wp2_with fail
 refine (ae HC).mono ?_
 rintro e w1 ⟨rfl,q,rfl⟩
 go_wp2_with fail
 refine (ae LD _ (by exact ae HX) (by exact ae HY)).mono ?_
 rintro e w2 ⟨v1,v2,rfl,h1,h3,h4,h5⟩
 have ALL:=af (And.intro h1 (And.intro h3 (And.intro (((But.refl [] _).drewN q).trans' h4) (h5.pre (w:=w) (Nat.le_refl _)))))
 clear h1 h3 h4 h5 LD HC
 go_wp2
 go_ret2
 exact⟨v1,v2,rfl,(ae ALL).1,(ae ALL).2.1,(ae ALL).2.2.1,(ae ALL).2.2.2⟩
theorem qbp (m:Nat):∀ X Y,(wd 18446744073709551616 X).length≤m→2≤(wd 18446744073709551616 Y).length→m+(wd 18446744073709551616 Y).length<2097152→si X Y:=by
 induction m with
 | zero =>
  intro X Y hX h2 hl
  have h0:X=0:=(zt (B:=18446744073709551616) (by omega) X).1 (by omega)
  have hY:0<Y:=by
   rcases Nat.eq_zero_or_pos Y with h | h
   ·subst h;rw[zq] at h2;simp at h2
   ·exact h
  exact zow X Y (by omega) (by omega)
 | succ m ih =>
  intro X Y hX h2 hl
  rcases Nat.lt_or_ge X Y with hlt | hge
  ·exact zow X Y hlt (by omega)
  ·by_cases hs:(wd 18446744073709551616 X).length<(wd 18446744073709551616 Y).length+80∨(wd 18446744073709551616 Y).length<80
   ·intro vx vy w hx hy
    exact (zxd X Y h2 hge (by omega) hs vx vy w hx hy).mono fun e w' ⟨v1,v2,h1,h3,h4,h5,h6⟩=>⟨v1,v2,h1,h3,h4,h5,xw.zis (h6 hge)⟩
   ·by_cases hp:(wd 18446744073709551616 Y).length+(wd 18446744073709551616 Y).length<(wd 18446744073709551616 X).length
    ·exact zxe X Y hge (by omega) hp (by omega) (fun D hD=>ih D Y (by omega) h2 (by omega))
    ·obtain⟨n,hn⟩:∃ n,n=((wd 18446744073709551616 X).length-(wd 18446744073709551616 Y).length)/2:=⟨_,rfl⟩
     have l1:=dm n X
     have l2:=dm n (X / 18446744073709551616^n)
     have l3:=dm n Y
     have l4:(wd 18446744073709551616 (X / 18446744073709551616^n%Y)).length≤(wd 18446744073709551616 Y).length:=aw (Nat.le_of_lt (Nat.mod_lt _ (by
      rcases Nat.eq_zero_or_pos Y with h | h
      ·subst h;rw[zq] at h2;simp at h2
      ·exact h)))
     exact ztv X Y n hge (by omega) (by omega) (by omega) hn (by omega) (ih _ _ (by omega) (by omega) (by omega)) (ih _ _ (by omega) (by omega) (by omega))
theorem zwk (vx vy:Value) (X Y:Nat) (w:World) (hx:Sl .u64 w vx (wd 18446744073709551616 X)) (hy:Sl .u64 w vy (wd 18446744073709551616 Y)) (hY:0<Y) (hl:(wd 18446744073709551616 X).length<134217728) (hly:(wd 18446744073709551616 Y).length<134217728)
  (hD:2≤(wd 18446744073709551616 Y).length→Y≤X→si (X*2^lz (qg Y)) (Y*2^lz (qg Y))) :
  Calls prog 142 #[vx,vy] w fun e w'=>∃ v1 v2,e=.returned (.tuple #[v1,v2])∧Sl .u64 w' v1 (wd 18446744073709551616 (X/Y))∧Sl .u64 w' v2 (wd 18446744073709551616 (X%Y))∧But [] w w'∧xw w vx w' v2:=by
 have hcmp:=oq vx vy X Y w hx hy (by omega) (by omega)
 rcases Nat.lt_or_ge X Y with hlt | hge
 ·rw[zcb hlt] at hcmp
  rw[Nat.div_eq_of_lt hlt,Nat.mod_eq_of_lt hlt,zq]
  have HC:=af hcmp
  have HX:=af hx
  obtain⟨a1,c1,rfl,-,-⟩:=hx
  obtain⟨a2,c2,rfl,-,-⟩:=hy
  clear hcmp hD
  generalize (wd 18446744073709551616 X).length=nx at *
  generalize (wd 18446744073709551616 Y).length=ny at *
  go_enter func142,ntmps142
  go_wp2_with fail
  refine (ae HC).mono ?_
  rintro e w1 ⟨rfl,q,rfl⟩
  go_wp2
  go_ret2
  exact⟨_,_,rfl,Sl.nil _ _,ae HX,(But.refl _ _).drewN q,xw.self _ _ _⟩
 ·have hc0:=zec hge
  generalize zz X Y=r at *
  have hr:decide (r<0)=false:=by simp;omega
  have HC:=af hcmp
  have HX:=af hx
  have HY:=af hy
  rcases hy.open with ⟨e,-⟩|⟨hp,b2,o2,c2,rfl,hc2,-,hcell⟩
  ·rw[oh (by omega)] at e;omega
  obtain⟨a1,c1,rfl,-,-⟩:=hx
  by_cases h1:(wd 18446744073709551616 Y).length=1
  ·have hYB:Y < 18446744073709551616:=by
    have:=am (B:=18446744073709551616) (by omega) Y 1 (by omega)
    rw[Nat.pow_one] at this
    exact this
   have hc:=hcell 0 (by omega)
   rw[Nat.add_zero,zgt Y hY hYB] at hc
   simp only[List.getElem?_cons_zero,Option.getD_some] at hc
   have HB:=af (fun (W:World) (h:Sl .u64 W (.slice a1 (wd 18446744073709551616 X).length c1) (wd 18446744073709551616 X))=>zkn _ X Y W h (by omega) hY hYB)
   have hmod:X%Y < 18446744073709551616:=Nat.lt_trans (Nat.mod_lt _ hY) hYB
   clear hcmp hD hcell hy
   generalize hnx:(wd 18446744073709551616 X).length=nx at *
   generalize hny:(wd 18446744073709551616 Y).length=ny at *
   clear hnx hny
   have e1:((ny:Int)==1)=true:=beq_iff_eq.2 (by omega)
   have hp1:(0:Int)<(ny:Int):=by omega
   have HE:=af h1
   clear h1
   go_enter func142,ntmps142
   go_wp2_with fail
   refine (ae HC).mono ?_
   rintro e w1 ⟨rfl,q,rfl⟩
   go_wp2_with fail
   refine (ae HB _ (by exact ae HX)).mono ?_
   rintro e w2 ⟨v1,rfl,hv1,hb2⟩
   have B2:Hid (But [] w w2):=((But.refl [] _).drewN q).trans' hb2
   have HV1:=af hv1
   clear hb2 hv1
   go_wp2_with fail
   refine (zbf (X%Y) hmod _).mono ?_
   rintro e w3 ⟨v2,rfl,hv2,hb3,ho3⟩
   have ALL:=af (And.intro ((ae HV1).ah hb3) (And.intro hv2 (And.intro ((ae B2).trans' hb3) (ho3.mono (ae B2).size))))
   clear hv2 hb3 ho3
   go_wp2
   go_ret2
   exact⟨v1,v2,rfl,(ae ALL).1,(ae ALL).2.1,(ae ALL).2.2.1,xw.zis (ae ALL).2.2.2⟩
  ·obtain⟨t1,t2,-,-⟩:=zjg Y hY
   have hs:=(zdk (qg Y) t1 t2).1
   have hDO:=hD (by omega) hge
   have hct:=hcell ((wd 18446744073709551616 Y).length-1) (by omega)
   have LZ:=af (fun W=>ziw (qg Y) t1 t2 W)
   have hnl:=qaq Y hY
   have hsl:=zvo X (lz (qg Y)) hs
   rw[show (wd 18446744073709551616 Y)[(wd 18446744073709551616 Y).length-1]?.getD 0=qg Y from rfl] at hct
   have HL1:=af (fun (W:World) (h:Sl .u64 W (.slice a1 (wd 18446744073709551616 X).length c1) (wd 18446744073709551616 X))=>zol _ X (lz (qg Y)) W h (by omega) hs)
   have HL2:=af (fun (W:World) (h:Sl .u64 W (.slice (some ⟨b2,o2,none⟩) (wd 18446744073709551616 Y).length c2) (wd 18446744073709551616 Y))=>zol _ Y (lz (qg Y)) W h (by omega) hs)
   have hz:0<2^lz (qg Y):=Nat.pow_pos (by omega)
   have HDO:=af hDO
   unfold si at HDO
   rw[Nat.mul_div_mul_right _ _ hz,Nat.mul_mod_mul_right] at HDO
   have hrl:(wd 18446744073709551616 (X%Y*2^lz (qg Y))).length<1073741824:=by
    have:=zvo (X%Y) (lz (qg Y)) hs
    have h3:=aw (Nat.mod_le X Y)
    omega
   have HRR:=af (fun (v:Value) (W:World) (h:Sl .u64 W v (wd 18446744073709551616 (X%Y*2^lz (qg Y))))=>zwj v (X%Y*2^lz (qg Y)) (lz (qg Y)) W h hrl hs)
   rw[Nat.mul_div_cancel _ hz] at HRR
   clear hcmp hD hDO hcell hy hnl hsl hz
   generalize lz (qg Y)=s at *
   generalize qg Y=t at *
   generalize hnx:(wd 18446744073709551616 X).length=nx at *
   generalize hny:(wd 18446744073709551616 Y).length=ny at *
   clear hnx hny
   have e1:((ny:Int)==1)=false:=beq_eq_false_iff_ne.2 (by omega)
   go_enter func142,ntmps142
   go_wp2_with fail
   refine (ae HC).mono ?_
   rintro e w1 ⟨rfl,q,rfl⟩
   go_wp2_with fail
   refine (ae LZ _).mono ?_
   rintro e w1 ⟨rfl,hw⟩
   obtain rfl:=hw.symm
   clear hw
   go_wp2_with fail
   refine (ae HL1 _ (by exact ae HX)).mono ?_
   rintro e w2 ⟨v1,rfl,hv1,hb2,hp2⟩
   have B2:Hid (But [] w w2):=((But.refl [] _).drewN q).trans' hb2
   have HE1:Hid (xw w (.slice a1 nx c1) w2 v1):=by
    rcases hp2 with rfl | ho
    ·exact xw.self _ _ _
    ·exact (xw.zis ho).pre (Nat.le_refl _)
   have HV1:=af hv1
   clear hb2 hv1 hp2
   go_wp2_with fail
   refine (ae HL2 _ ((ae HY).ah (ae B2))).mono ?_
   rintro e w3 ⟨v2,rfl,hv2,hb3,-⟩
   have B3:Hid (But [] w w3):=(ae B2).trans' hb3
   have HV2:=af hv2
   have HV1':=af ((ae HV1).ah hb3)
   have HE1':=af ((ae HE1).but (ae HV1) hb3)
   clear hv2 hb3 HV1 HE1
   go_wp2_with fail
   refine (ae HDO v1 v2 _ (ae HV1') (ae HV2)).mono ?_
   rintro e w4 ⟨v3,v4,rfl,hv3,hv4,hb4,he4⟩
   have B4:Hid (But [] w w4):=(ae B3).trans' hb4
   have H3:=af hv3
   have H4:=af hv4
   have HE4:=af ((ae HE1').trans (ae HV1') hb4 (ae B3).size he4)
   clear hv3 hv4 hb4 he4 HE1'
   go_wp2_with fail
   refine (ae HRR v4 _ (ae H4)).mono ?_
   rintro e w5 ⟨v5,rfl,hv5,hb5,hp5⟩
   have HE5:xw w (.slice a1 nx c1) w5 v5:=by
    rcases hp5 with rfl | ho
    ·exact (ae HE4).but (ae H4) hb5
    ·exact (xw.zis ho).pre (ae B4).size
   have ALL:=af (And.intro ((ae H3).ah hb5) (And.intro hv5 (And.intro ((ae B4).trans' hb5) HE5)))
   clear hv5 hb5 hp5 HE5 HE4
   go_wp2
   go_ret2
   exact⟨v3,v5,rfl,(ae ALL).1,(ae ALL).2.1,(ae ALL).2.2.1,(ae ALL).2.2.2⟩
def Short (X _Y:Nat):Prop:=(wd 18446744073709551616 X).length≤1000000
theorem Short.of (X Y:Nat) (h:(wd 18446744073709551616 X).length≤1000000):Short X Y:=h
theorem zfy (vx vy:Value) (X Y:Nat) (w:World) (hx:Sl .u64 w vx (wd 18446744073709551616 X)) (hy:Sl .u64 w vy (wd 18446744073709551616 Y)) (hY:0<Y) (hl:(wd 18446744073709551616 X).length<134217728) (hly:(wd 18446744073709551616 Y).length<134217728) (hs:Short X Y) :
  Calls prog 142 #[vx,vy] w fun e w'=>∃ v1 v2,e=.returned (.tuple #[v1,v2])∧Sl .u64 w' v1 (wd 18446744073709551616 (X/Y))∧Sl .u64 w' v2 (wd 18446744073709551616 (X%Y))∧But [] w w'∧xw w vx w' v2 :=
 zwk vx vy X Y w hx hy hY hl hly (fun h2 hle=>by
  obtain⟨t1,t2,-,-⟩:=zjg Y hY
  have hz:=(zdk (qg Y) t1 t2).1
  have h3:=qaq Y hY
  have h4:=zvo X (lz (qg Y)) hz
  have h5:=aw hle
  unfold Short at hs
  exact qbp (wd 18446744073709551616 (X*2^lz (qg Y))).length _ _ (Nat.le_refl _) (by omega) (by omega))
theorem yu (vx vy:Value) (X Y:Nat) (w:World) (hx:Sl .u64 w vx (wd 18446744073709551616 X)) (hy:Sl .u64 w vy (wd 18446744073709551616 Y)) (hY:0<Y) (hl:(wd 18446744073709551616 X).length<134217728) (hly:(wd 18446744073709551616 Y).length<134217728) (hs:Short X Y) :
  Calls prog 123 #[vx,vy] w fun e w'=>∃ v1,e=.returned v1∧Sl .u64 w' v1 (wd 18446744073709551616 (X/Y))∧But [] w w':=by
 have HX:=af hx
 have HQ:=af (zfy vx vy X Y w hx hy hY hl hly hs)
 have HO:=af (fun r hr=>zba vy Y w hy (by omega) r hr)
 obtain⟨a1,c1,rfl,-,-⟩:=hx
 obtain⟨a2,c2,rfl,-,-⟩:=hy
 clear hs
 generalize (wd 18446744073709551616 X).length=nx at *
 generalize (wd 18446744073709551616 Y).length=ny at *
 by_cases h1:Y=1
 ·subst h1
  rw[Nat.div_one]
  go_enter func123,ntmps123
  go_wp2_with fail
  refine (ae HO true (by show true=_;simp)).mono ?_
  rintro e w1 ⟨rfl,hw⟩
  obtain rfl:=hw.symm
  clear hw
  go_wp2
  go_ret
  exact⟨_,rfl,ae HX,But.refl _ _⟩
 ·go_enter func123,ntmps123
  go_wp2_with fail
  refine (ae HO false (by show false=_;simp[h1])).mono ?_
  rintro e w1 ⟨rfl,hw⟩
  obtain rfl:=hw.symm
  clear hw
  go_wp2_with fail
  refine (ae HQ).mono ?_
  rintro e w2 ⟨v1,v2,rfl,hv1,-,hb2,-⟩
  have ALL:=af (And.intro hv1 hb2)
  clear hv1 hb2
  go_wp2
  go_ret
  exact⟨v1,rfl,(ae ALL).1,(ae ALL).2⟩
theorem zzc {lo:Nat} {W w':World} {vx vy v2:Value} {X Y:Nat} (hp:zue lo W vx vy X Y) (hY:0<Y) (hle:Y≤X) (hlo:lo≤W.heap.size) (h2:Sl .u64 w' v2 (wd 18446744073709551616 (X%Y))) (hb:But [] W w') (he:xw W vx w' v2):Less lo W X Y (.returned (.tuple #[vy,v2])) w' :=
 ⟨vy,v2,Y,X%Y,rfl,⟨hp.s2.ah hb,h2,hp.o2.but hp.s2 hb,he.own hp.o1 hlo hp.s1 hb,fun b off n c b' off' n' c' e1 e2=>by
  have hpos:0<(wd 18446744073709551616 Y).length:=by rw[Nat.pos_iff_ne_zero];intro e;rw[zt (by omega)] at e;omega
  have h4:=hp.s2.lt hpos b off n c e1
  rcases he _ _ _ _ e2 with ⟨h3,-⟩|⟨o0,n0,c0,e0,-,-⟩
  ·omega
  ·exact fun e=>hp.ap _ _ _ _ _ _ _ _ e0 e1 e.symm⟩,Nat.le_of_lt (Nat.mod_lt _ hY),Nat.mod_lt _ hY,hle,zww X Y,[],by simp,hb⟩
theorem Less.pre {lo:Nat} {w W:World} {X Y:Nat} {e:Ending} {w':World} (h:Less lo W X Y e w') (hb:But [] w W):Less lo w X Y e w':=by
 obtain⟨v1,v2,X',Y',h1,h2,h3,h4,h5,h6,l,h7,h8⟩:=h
 exact⟨v1,v2,X',Y',h1,h2,h3,h4,h5,h6,l,h7,(But.of_nil hb).trans h8 (fun x hx=>.inl hx)⟩
theorem zlz (lo:Nat) (vx vy:Value) (X Y:Nat) (w:World) (hp:zue lo w vx vy X Y) (h2:2≤(wd 18446744073709551616 Y).length) (hle:Y≤X) (hl:(wd 18446744073709551616 X).length≤1000000) (hlo:lo≤w.heap.size) :
  Calls prog 158 #[vx,vy] w fun e w'=>Less lo w X Y e w':=by
 have hlen:=aw hle
 have hY:0<Y:=by
  rcases Nat.eq_zero_or_pos Y with h | h
  ·subst h;rw[zq] at h2;simp at h2
  ·exact h
 have HQ:=af (fun (W:World) (h:zue lo W vx vy X Y)=>zfy vx vy X Y W h.s1 h.s2 hY (by omega) (by omega) (Short.of X Y hl))
 have HT:=af (fun (W:World) (h:zue lo W vx vy X Y) xx xy yx yy back=>qgb lo vx vy X Y xx xy yx yy back W h h2 hle (by omega))
 have HS:=af (fun (h:(wd 18446744073709551616 X).length<(wd 18446744073709551616 Y).length+2)=>zye vx vy X Y w hp.s1 hp.s2 h2 h hle (by omega))
 have HP:=af hp
 obtain⟨a1,c1,rfl,-,-⟩:=hp.s1
 obtain⟨a2,c2,rfl,-,-⟩:=hp.s2
 clear hp
 have HLO:=af hlo
 clear hlo
 generalize (wd 18446744073709551616 X).length=nx at *
 generalize (wd 18446744073709551616 Y).length=ny at *
 by_cases hn:nx<ny+2
 ·go_enter func158,ntmps158
  go_wp2_with fail
  refine (ae HS hn).mono ?_
  rintro e w1 ⟨xx,xy,yx,yy,back,rfl,hxx,hxy,hyx,hyy,hok,hb1⟩
  have HOK:=af hok
  have HB1:=af hb1
  clear hok hb1 HS
  have BW:Hid (But [] w (w1.alloc (.cells #[.int .u64 (xx:Int),.int .u64 (xy:Int),.int .u64 (yx:Int),.int .u64 (yy:Int),.bool back] 233))):=(ae HB1).alloc _
  by_cases h0:xy=0
  ·subst h0
   go_wp2_with fail
   refine (ae HQ _ ((ae HP).but (ae BW))).mono ?_
   rintro e w2 ⟨v1,v2,rfl,-,hv2,hb2,ho2⟩
   have R:=af ((zzc ((ae HP).but (ae BW)) hY hle (Nat.le_trans (ae HLO) (ae BW).size) hv2 hb2 ho2).pre (ae BW))
   clear hv2 hb2 ho2
   go_wp2
   go_ret2
   exact ae R
  ·have hz:((xy:Int) != 0)=true:=by simp;exact h0
   go_wp2_with fail
   refine (ae HT _ ((ae HP).but (ae BW)) xx xy yx yy back hxx hxy hyx hyy (ae HOK) h0).mono ?_
   intro e w2 hless
   obtain⟨v1,v2,X',Y',rfl,hrest⟩:=hless
   have R:=af ((show Less lo _ X Y (.returned (.tuple #[v1,v2])) w2 from ⟨v1,v2,X',Y',rfl,hrest⟩).pre (ae BW))
   clear hrest
   go_wp2
   go_ret2
   exact ae R
 ·go_enter func158,ntmps158
  go_wp2_with fail
  refine (ae HQ _ (ae HP)).mono ?_
  rintro e w2 ⟨v1,v2,rfl,-,hv2,hb2,ho2⟩
  have R:=af (zzc (ae HP) hY hle (ae HLO) hv2 hb2 ho2)
  clear hv2 hb2 ho2
  go_wp2
  go_ret2
  exact ae R
def znz (w:World) (X Y:Nat) (Y':Nat) (vx vy:Value) (wr:World):Prop:=∃ X',Sl .u64 wr vx (wd 18446744073709551616 X')∧Sl .u64 wr vy (wd 18446744073709551616 Y')∧Y'≤X'∧X'≤X∧Nat.gcd X' Y'=Nat.gcd X Y∧But [] w wr∧(2≤(wd 18446744073709551616 Y').length→zue w.heap.size wr vx vy X' Y')
theorem zom (vx vy:Value) (X Y:Nat) (w:World) (hx:Sl .u64 w vx (wd 18446744073709551616 X)) (hy:Sl .u64 w vy (wd 18446744073709551616 Y)) (hle:Y<X) (h1:1<Y) (hl:(wd 18446744073709551616 X).length≤1000000) (u v:Value) (r:Int) (hcmp:Hid (Calls prog 144 #[u,v] w fun e w'=>e=.returned (.int .i64 r)∧∃ q,w'=w.drewN q)) (huv:(u=vx∧v=vy∧r=1)∨(u=vy∧v=vx∧r=-1)) :
  Calls prog 121 #[u,v] w fun e w'=>∃ v',e=.returned v'∧Sl .u64 w' v' (wd 18446744073709551616 (Nat.gcd X Y))∧But [] w w':=by
 have hlen:=aw (Nat.le_of_lt hle)
 have hYl:0<(wd 18446744073709551616 Y).length:=by rw[Nat.pos_iff_ne_zero];intro e;rw[zt (by omega)] at e;omega
 have HO:=af (fun W (h:Sl .u64 W vy (wd 18446744073709551616 Y))=>zba vy Y W h (by omega) false (by show false=_;simp;omega))
 rcases hx.open with ⟨e,-⟩|⟨-,b1,o1,c1,rfl,hc1,-,-⟩
 ·rw[e,List.length_nil] at hlen;omega
 rcases hy.open with ⟨e,-⟩|⟨-,b2,o2,c2,rfl,hc2,-,-⟩
 ·rw[e] at hYl;simp at hYl
 have HC1:=af (fun W (h:Sl .u64 W (.slice (some ⟨b1,o1,none⟩) (wd 18446744073709551616 X).length c1) (wd 18446744073709551616 X))=>zvb b1 o1 c1 (wd 18446744073709551616 X) W h (by omega) (by omega))
 have HC2:=af (fun W (h:Sl .u64 W (.slice (some ⟨b2,o2,none⟩) (wd 18446744073709551616 Y).length c2) (wd 18446744073709551616 Y))=>zvb b2 o2 c2 (wd 18446744073709551616 Y) W h (by omega) (by omega))
 have HX:=af hx
 have HY:=af hy
 clear hx hy
 generalize hnx:(wd 18446744073709551616 X).length=nx at *
 generalize hny:(wd 18446744073709551616 Y).length=ny at *
 have NX:=af hnx
 have NY:=af hny
 clear hnx hny
 have n0:((ny:Int)==0)=false:=beq_eq_false_iff_ne.2 (by omega)
 by_cases h2:2≤ny
 ·rcases huv with ⟨rfl,rfl,rfl⟩|⟨rfl,rfl,rfl⟩
  all_goals
   go_enter func121,ntmps121
   go_wp2_with fail
   refine (ae hcmp).mono ?_
   rintro e w1 ⟨rfl,q,rfl⟩
   go_wp2_with fail
   refine (ae HO _ (by exact ae HY)).mono ?_
   rintro e w1 ⟨rfl,hw⟩
   obtain rfl:=hw.symm
   clear hw
   go_wp2_with fail
   refine (ae HC1 _ (by exact ae HX)).mono ?_
   rintro e w2 ⟨v1,rfl,hv1,hb1,ho1,g1,d1,rfl⟩
   have B1:Hid (But [] w w2):=((But.refl [] _).drewN q).trans' hb1
   have P1:=af (And.intro hv1 ho1)
   clear hv1 hb1 ho1
   go_wp2_with fail
   refine (ae HC2 _ ((ae HY).ah (ae B1))).mono ?_
   rintro e w3 ⟨v2,rfl,hv2,hb2,ho2,g2,d2,rfl⟩
   have hap:g1<w2.heap.size:=(ae P1).1.lt (by rw[ae NX];omega) g1 0 _ _ rfl
   have hap2:w2.heap.size≤g2:=(ho2 _ _ _ _ rfl).1
   have A0:Hid (znz w X Y Y (.slice (some ⟨g1,0,none⟩) nx d1) (.slice (some ⟨g2,0,none⟩) ny d2) w3) :=
    ⟨X,(ae P1).1.ah hb2,hv2,Nat.le_of_lt hle,Nat.le_refl _,rfl,(ae B1).trans' hb2,fun _=>⟨(ae P1).1.ah hb2,hv2,(ae P1).2.but (ae P1).1 hb2,ho2.mono (ae B1).size,fun b off n c b' off' n' c' e1 e2=>by
     simp only[Value.slice.injEq,Option.some.injEq,Addr.mk.injEq] at e1 e2
     obtain⟨⟨rfl,-⟩,-⟩:=e1
     obtain⟨⟨rfl,-⟩,-⟩:=e2
     omega⟩⟩
   clear hv2 hb2 ho2 P1 B1 HC1 HC2 hap hap2
   go_wp2_with fail
   go_loopg [0,1] Y (fun k p1 p2 wr=>Hid (znz w X Y k p1 p2 wr))
   case atStart=>exact A0
   case round =>
    clear A0
    obtain⟨X',hs1,hs2,hYX,hXX,hg,hB,hP⟩:=ae hrel
    have hl1:=aw hXX
    have hl2:=aw hYX
    have HI:=af (And.intro hs1 (And.intro hs2 (And.intro hYX (And.intro hXX (And.intro hg (And.intro hB hP))))))
    rw[ae NX] at hl1
    by_cases hk2:2≤(wd 18446744073709551616 gk).length
    ·have HL:=af (zlz w.heap.size _ _ X' gk wr (hP hk2) hk2 hYX (by omega) hB.size)
     obtain⟨a1,d1,rfl,-,-⟩:=hs1
     obtain⟨a2,d2,rfl,-,-⟩:=hs2
     clear hrel hg hB hP
     generalize (wd 18446744073709551616 X').length=m1 at *
     generalize (wd 18446744073709551616 gk).length=m2 at *
     go_wp2_with fail
     refine (ae HL).mono ?_
     rintro e w5 ⟨v1,v2,X2,Y2,rfl,hp2,hle2,hlt2,hX2,hg2,l,hlo,hbl⟩
     have R:Hid (znz w X Y Y2 v1 v2 w5):=⟨X2,hp2.s1,hp2.s2,hle2,by omega,by rw[hg2];exact (ae HI).2.2.2.2.1,(ae HI).2.2.2.2.2.1.trans hbl (fun x hx=>.inr (hlo x hx)),fun _=>hp2⟩
     clear hp2 hg2 hlo hbl
     go_wp2
     go_roundg Y2
     case measure=>exact hlt2
     case rel=>exact R
    ·rcases Nat.eq_zero_or_pos gk with hz | hz
     ·subst hz
      rw[Nat.gcd_zero_right] at hg
      rw[zq] at hs2
      obtain⟨a1,d1,rfl,-,-⟩:=id hs1
      obtain⟨a2,d2,rfl,-,-⟩:=hs2
      have R:=af (And.intro hs1 hB)
      have HG:=af hg
      clear hrel hg hB hP hs1 hk2 HI hl2
      generalize (wd 18446744073709551616 X').length=m1 at *
      go_wp2
      go_ret
      exact⟨_,rfl,by rw[← ae HG];exact (ae R).1,(ae R).2⟩
     ·have hkB:gk < 18446744073709551616:=by
       rcases Nat.lt_or_ge gk 18446744073709551616 with h | h
       ·exact h
       ·exact absurd (zgu gk h) hk2
      rcases zje hs2 hkB with ⟨rfl,-⟩|⟨-,b,off,c,rfl,hcell⟩
      ·omega
      have HBY:=af (zkn _ X' gk wr hs1 (by omega) hz hkB)
      have hmB:X' % gk < 18446744073709551616:=Nat.lt_trans (Nat.mod_lt _ hz) hkB
      have GW:=af (fun W=>wh gk (X' % gk) W hkB hmB)
      have hgB:Nat.gcd gk (X' % gk) < 18446744073709551616:=Nat.lt_of_le_of_lt (Nat.gcd_le_left _ hz) hkB
      have HG:Hid (Nat.gcd gk (X' % gk)=Nat.gcd X Y):=by show _=_;rw[zww];exact hg
      have HOF:=af (fun W=>zbf (Nat.gcd gk (X' % gk)) hgB W)
      obtain⟨a1,d1,rfl,-,-⟩:=id hs1
      have HB:=af hB
      clear hrel hg hB hP hs1 hs2 HI hl2
      generalize (wd 18446744073709551616 X').length=m1 at *
      go_wp2_with fail
      refine (ae HBY).mono ?_
      rintro e w5 ⟨v5,rfl,-,hb5⟩
      have hc5:=hb5.ag hcell (by simp)
      have HB5:=af hb5
      clear hb5 hcell
      go_wp2_with fail
      refine (ae GW _).mono ?_
      rintro e w6 ⟨rfl,q6,rfl⟩
      go_wp2_with fail
      refine (ae HOF _).mono ?_
      rintro e w7 ⟨v7,rfl,hv7,hb7,-⟩
      rw[ae HG] at hv7
      have R:=af (And.intro hv7 ((ae HB).trans' ((ae HB5).trans' (((But.refl [] _).drewN q6).trans' hb7))))
      clear hv7 hb7
      go_wp2
      go_ret
      exact⟨v7,rfl,(ae R).1,(ae R).2⟩
 ·rcases huv with ⟨rfl,rfl,rfl⟩|⟨rfl,rfl,rfl⟩
  all_goals
   go_enter func121,ntmps121
   go_wp2_with fail
   refine (ae hcmp).mono ?_
   rintro e w1 ⟨rfl,q,rfl⟩
   go_wp2_with fail
   refine (ae HO _ (by exact ae HY)).mono ?_
   rintro e w1 ⟨rfl,hw⟩
   obtain rfl:=hw.symm
   clear hw
   have A0:Hid (znz w X Y Y (.slice (some ⟨b1,o1,none⟩) nx c1) (.slice (some ⟨b2,o2,none⟩) ny c2) (w.drewN q)) :=
    ⟨X,ae HX,ae HY,Nat.le_of_lt hle,Nat.le_refl _,rfl,(But.refl [] _).drewN q,fun h=>by rw[ae NY] at h;omega⟩
   go_wp2_with fail
   go_loopg [0,1] Y (fun k p1 p2 wr=>Hid (znz w X Y k p1 p2 wr))
   case atStart=>exact A0
   case round =>
    clear A0
    obtain⟨X',hs1,hs2,hYX,hXX,hg,hB,hP⟩:=ae hrel
    have hl1:=aw hXX
    have hl2:=aw hYX
    have HI:=af (And.intro hs1 (And.intro hs2 (And.intro hYX (And.intro hXX (And.intro hg (And.intro hB hP))))))
    rw[ae NX] at hl1
    by_cases hk2:2≤(wd 18446744073709551616 gk).length
    ·have HL:=af (zlz w.heap.size _ _ X' gk wr (hP hk2) hk2 hYX (by omega) hB.size)
     obtain⟨a1,d1,rfl,-,-⟩:=hs1
     obtain⟨a2,d2,rfl,-,-⟩:=hs2
     clear hrel hg hB hP
     generalize (wd 18446744073709551616 X').length=m1 at *
     generalize (wd 18446744073709551616 gk).length=m2 at *
     go_wp2_with fail
     refine (ae HL).mono ?_
     rintro e w5 ⟨v1,v2,X2,Y2,rfl,hp2,hle2,hlt2,hX2,hg2,l,hlo,hbl⟩
     have R:Hid (znz w X Y Y2 v1 v2 w5):=⟨X2,hp2.s1,hp2.s2,hle2,by omega,by rw[hg2];exact (ae HI).2.2.2.2.1,(ae HI).2.2.2.2.2.1.trans hbl (fun x hx=>.inr (hlo x hx)),fun _=>hp2⟩
     clear hp2 hg2 hlo hbl
     go_wp2
     go_roundg Y2
     case measure=>exact hlt2
     case rel=>exact R
    ·rcases Nat.eq_zero_or_pos gk with hz | hz
     ·subst hz
      rw[Nat.gcd_zero_right] at hg
      rw[zq] at hs2
      obtain⟨a1,d1,rfl,-,-⟩:=id hs1
      obtain⟨a2,d2,rfl,-,-⟩:=hs2
      have R:=af (And.intro hs1 hB)
      have HG:=af hg
      clear hrel hg hB hP hs1 hk2 HI hl2
      generalize (wd 18446744073709551616 X').length=m1 at *
      go_wp2
      go_ret
      exact⟨_,rfl,by rw[← ae HG];exact (ae R).1,(ae R).2⟩
     ·have hkB:gk < 18446744073709551616:=by
       rcases Nat.lt_or_ge gk 18446744073709551616 with h | h
       ·exact h
       ·exact absurd (zgu gk h) hk2
      rcases zje hs2 hkB with ⟨rfl,-⟩|⟨-,b,off,c,rfl,hcell⟩
      ·omega
      have HBY:=af (zkn _ X' gk wr hs1 (by omega) hz hkB)
      have hmB:X' % gk < 18446744073709551616:=Nat.lt_trans (Nat.mod_lt _ hz) hkB
      have GW:=af (fun W=>wh gk (X' % gk) W hkB hmB)
      have hgB:Nat.gcd gk (X' % gk) < 18446744073709551616:=Nat.lt_of_le_of_lt (Nat.gcd_le_left _ hz) hkB
      have HG:Hid (Nat.gcd gk (X' % gk)=Nat.gcd X Y):=by show _=_;rw[zww];exact hg
      have HOF:=af (fun W=>zbf (Nat.gcd gk (X' % gk)) hgB W)
      obtain⟨a1,d1,rfl,-,-⟩:=id hs1
      have HB:=af hB
      clear hrel hg hB hP hs1 hs2 HI hl2
      generalize (wd 18446744073709551616 X').length=m1 at *
      go_wp2_with fail
      refine (ae HBY).mono ?_
      rintro e w5 ⟨v5,rfl,-,hb5⟩
      have hc5:=hb5.ag hcell (by simp)
      have HB5:=af hb5
      clear hb5 hcell
      go_wp2_with fail
      refine (ae GW _).mono ?_
      rintro e w6 ⟨rfl,q6,rfl⟩
      go_wp2_with fail
      refine (ae HOF _).mono ?_
      rintro e w7 ⟨v7,rfl,hv7,hb7,-⟩
      rw[ae HG] at hv7
      have R:=af (And.intro hv7 ((ae HB).trans' ((ae HB5).trans' (((But.refl [] _).drewN q6).trans' hb7))))
      clear hv7 hb7
      go_wp2
      go_ret
      exact⟨v7,rfl,(ae R).1,(ae R).2⟩
theorem zcn (vx vy:Value) (X Y:Nat) (w:World) (hx:Sl .u64 w vx (wd 18446744073709551616 X)) (hy:Sl .u64 w vy (wd 18446744073709551616 Y)) (hlx:(wd 18446744073709551616 X).length≤1000000) (hly:(wd 18446744073709551616 Y).length≤1000000) :
  Calls prog 121 #[vx,vy] w fun e w'=>∃ v',e=.returned v'∧Sl .u64 w' v' (wd 18446744073709551616 (Nat.gcd X Y))∧But [] w w':=by
 have hcmp:=oq vx vy X Y w hx hy (by omega) (by omega)
 have HX:=af hx
 have HY:=af hy
 rcases zfd X Y with ⟨hlt,hc⟩|⟨heq,hc⟩|⟨hgt,hc⟩
 ·rw[hc] at hcmp
  rcases Nat.lt_or_ge 1 X with h1 | h1
  ·have:=zom vy vx Y X w hy hx hlt h1 hly vx vy (-1) hcmp (.inr ⟨rfl,rfl,rfl⟩)
   rw[Nat.gcd_comm] at this
   exact this
  ·have HC:=af hcmp
   have HO:=af (fun W (h:Sl .u64 W vx (wd 18446744073709551616 X))=>zba vx X W h (by omega) true)
   rcases Nat.eq_zero_or_pos X with h0 | h0
   ·subst h0
    rw[Nat.gcd_zero_left]
    rw[zq] at hx
    obtain⟨a1,c1,rfl,-,-⟩:=hx
    obtain⟨a2,c2,rfl,-,-⟩:=hy
    clear hcmp hc HO
    generalize (wd 18446744073709551616 Y).length=ny at *
    go_enter func121,ntmps121
    go_wp2_with fail
    refine (ae HC).mono ?_
    rintro e w1 ⟨rfl,q,rfl⟩
    go_wp2
    go_ret
    exact⟨_,rfl,ae HY,(But.refl _ _).drewN q⟩
   ·have hX1:X=1:=by omega
    subst hX1
    rw[Nat.gcd_one_left]
    have hl1:(wd 18446744073709551616 1).length=1:=by rw[zgt 1 (by omega) (by omega)];rfl
    have HO1:=af (fun W h=>ae HO W h (by show true=_;rfl))
    obtain⟨a1,c1,rfl,-,-⟩:=hx
    obtain⟨a2,c2,rfl,-,-⟩:=hy
    clear hcmp hc HO
    rw[hl1] at *
    generalize (wd 18446744073709551616 Y).length=ny at *
    clear hl1
    go_enter func121,ntmps121
    go_wp2_with fail
    refine (ae HC).mono ?_
    rintro e w1 ⟨rfl,q,rfl⟩
    go_wp2_with fail
    refine (ae HO1 _ (by exact ae HX)).mono ?_
    rintro e w1 ⟨rfl,hw⟩
    obtain rfl:=hw.symm
    clear hw
    go_wp2
    go_ret
    exact⟨_,rfl,ae HX,(But.refl _ _).drewN q⟩
 ·rw[hc] at hcmp
  have HC:=af hcmp
  subst heq
  rw[Nat.gcd_self]
  obtain⟨a1,c1,rfl,-,-⟩:=hx
  obtain⟨a2,c2,rfl,-,-⟩:=hy
  clear hcmp hc
  generalize (wd 18446744073709551616 X).length=nx at *
  go_enter func121,ntmps121
  go_wp2_with fail
  refine (ae HC).mono ?_
  rintro e w1 ⟨rfl,q,rfl⟩
  go_wp2
  go_ret
  exact⟨_,rfl,ae HX,(But.refl _ _).drewN q⟩
 ·rw[hc] at hcmp
  rcases Nat.lt_or_ge 1 Y with h1 | h1
  ·exact zom vx vy X Y w hx hy hgt h1 hlx vx vy 1 hcmp (.inl ⟨rfl,rfl,rfl⟩)
  ·have HC:=af hcmp
   have HO:=af (fun W (h:Sl .u64 W vy (wd 18446744073709551616 Y))=>zba vy Y W h (by omega) true)
   rcases Nat.eq_zero_or_pos Y with h0 | h0
   ·subst h0
    rw[Nat.gcd_zero_right]
    rw[zq] at hy
    obtain⟨a1,c1,rfl,-,-⟩:=hx
    obtain⟨a2,c2,rfl,-,-⟩:=hy
    clear hcmp hc HO
    generalize (wd 18446744073709551616 X).length=nx at *
    go_enter func121,ntmps121
    go_wp2_with fail
    refine (ae HC).mono ?_
    rintro e w1 ⟨rfl,q,rfl⟩
    go_wp2
    go_ret
    exact⟨_,rfl,ae HX,(But.refl _ _).drewN q⟩
   ·have hX1:Y=1:=by omega
    subst hX1
    rw[Nat.gcd_one_right]
    have hl1:(wd 18446744073709551616 1).length=1:=by rw[zgt 1 (by omega) (by omega)];rfl
    have HO1:=af (fun W h=>ae HO W h (by show true=_;rfl))
    obtain⟨a1,c1,rfl,-,-⟩:=hx
    obtain⟨a2,c2,rfl,-,-⟩:=hy
    clear hcmp hc HO
    rw[hl1] at *
    generalize (wd 18446744073709551616 X).length=nx at *
    clear hl1
    go_enter func121,ntmps121
    go_wp2_with fail
    refine (ae HC).mono ?_
    rintro e w1 ⟨rfl,q,rfl⟩
    go_wp2_with fail
    refine (ae HO1 _ (by exact ae HY)).mono ?_
    rintro e w1 ⟨rfl,hw⟩
    obtain rfl:=hw.symm
    clear hw
    go_wp2
    go_ret
    exact⟨_,rfl,ae HY,(But.refl _ _).drewN q⟩
theorem ztb (s t:Bool) (v1 v2:Value) (m n:Nat) (w:World) (h1:Sl .u64 w v1 (wd 18446744073709551616 m)) (h2:Sl .u64 w v2 (wd 18446744073709551616 n)) (hl1:(wd 18446744073709551616 m).length<1073741824) (hl2:(wd 18446744073709551616 n).length<1073741824) :
  Calls prog 129 #[.bool s,v1,.bool t,v2] w fun e w'=>∃ (r:Bool) (v:Value) (M:Nat),e=.returned (.tuple #[.bool r,v])∧Sl .u64 w' v (wd 18446744073709551616 M)∧sgn s m+sgn t n=sgn r M∧M≤m+n∧But [] w w':=by
 have HA:=af (zey v1 v2 m n w h1 h2 hl1 hl2)
 have HC:=af (oq v1 v2 m n w h1 h2 (by omega) (by omega))
 have H1:=af h1
 have H2:=af h2
 have HS1:=af (fun (W:World) (a:Sl .u64 W v1 (wd 18446744073709551616 m)) (b:Sl .u64 W v2 (wd 18446744073709551616 n)) (h:n≤m)=>zex v1 v2 m n W a b hl1 h)
 have HS2:=af (fun (W:World) (a:Sl .u64 W v1 (wd 18446744073709551616 m)) (b:Sl .u64 W v2 (wd 18446744073709551616 n)) (h:m≤n)=>zex v2 v1 n m W b a hl2 h)
 obtain⟨a1,c1,rfl,-,-⟩:=h1
 obtain⟨a2,c2,rfl,-,-⟩:=h2
 generalize (wd 18446744073709551616 m).length=l1 at *
 generalize (wd 18446744073709551616 n).length=l2 at *
 by_cases hst:s=t
 ·subst hst
  have hb:(s==s)=true:=by simp
  have HE:Hid (sgn s m+sgn s n=sgn s (m+n)):=by show _=_;cases s <;> simp[sgn] <;> omega
  go_enter func129,ntmps129
  go_wp2_with fail
  refine (ae HA).mono ?_
  rintro e w1 ⟨v,rfl,hv,hb1⟩
  have R:=af (And.intro hv hb1)
  clear hv hb1
  go_wp2
  go_ret2
  exact⟨s,v,m+n,rfl,(ae R).1,ae HE,Nat.le_refl _,(ae R).2⟩
 ·have hb:(s==t)=false:=by simp[hst]
  have ht:t=!s:=by cases s <;> cases t <;> simp_all
  rcases Nat.lt_or_ge m n with hlt | hge
  ·rw[zcb hlt] at HC
   have HE:Hid (sgn s m+sgn t n=sgn t (n-m)):=by
    show _=_
    rw[ht]
    cases s <;> simp[sgn] <;> omega
   clear ht
   go_enter func129,ntmps129
   go_wp2_with fail
   refine (ae HC).mono ?_
   rintro e w1 ⟨rfl,q,rfl⟩
   go_wp2_with fail
   refine (ae HS2 _ (by exact ae H1) (by exact ae H2) (Nat.le_of_lt hlt)).mono ?_
   rintro e w2 ⟨v,rfl,hv,hb1⟩
   have R:=af (And.intro hv (((But.refl [] _).drewN q).trans' hb1))
   clear hv hb1
   go_wp2
   go_ret2
   exact⟨t,v,n-m,rfl,(ae R).1,ae HE,by omega,(ae R).2⟩
  ·have hc0:=zec hge
   have HE:Hid (sgn s m+sgn t n=sgn s (m-n)):=by
    show _=_
    rw[ht]
    cases s <;> simp[sgn] <;> omega
   clear ht
   generalize zz m n=r at *
   have hr:decide (0≤r)=true:=by simp;omega
   go_enter func129,ntmps129
   go_wp2_with fail
   refine (ae HC).mono ?_
   rintro e w1 ⟨rfl,q,rfl⟩
   go_wp2_with fail
   refine (ae HS1 _ (by exact ae H1) (by exact ae H2) hge).mono ?_
   rintro e w2 ⟨v,rfl,hv,hb1⟩
   have R:=af (And.intro hv (((But.refl [] _).drewN q).trans' hb1))
   clear hv hb1
   go_wp2
   go_ret2
   exact⟨s,v,m-n,rfl,(ae R).1,ae HE,by omega,(ae R).2⟩
theorem j6 (v:Value) (f:Rat) (w:World) (hf:aq w v f) :
  Calls prog 25 #[v] w fun e w'=>e=.returned (.int .i64 f.num.sign)∧But [] w w':=by
 rcases hf with ⟨hp,hq,rfl⟩|⟨hbig,b,v1,v2,rfl,-,-,-,-⟩
 ·by_cases hn:f.num<0
  ·have e:f.num.sign=-1:=Int.sign_eq_neg_one_of_neg hn
   rw[e]
   have hd:decide (f.num<0)=true:=decide_eq_true hn
   rw[hd]
   generalize f.num.natAbs=p at *
   generalize f.den=q at *
   clear hn hd e
   go_enter func25,ntmps25
   go_wp2
   go_ret
   exact⟨rfl,(But.refl _ _).alloc _⟩
  ·have hd:decide (f.num<0)=false:=decide_eq_false hn
   rw[hd]
   rcases Nat.eq_zero_or_pos f.num.natAbs with h0 | h0
   ·have e:f.num.sign=0:=by rw[Int.sign_eq_zero_iff_zero];omega
    rw[e,h0]
    generalize f.den=q at *
    clear hn hd e h0 hp
    go_enter func25,ntmps25
    go_wp2
    go_ret
    exact⟨rfl,(But.refl _ _).alloc _⟩
   ·have e:f.num.sign=1:=Int.sign_eq_one_of_pos (by omega)
    rw[e]
    generalize f.num.natAbs=p at *
    generalize f.den=q at *
    have n0:((p:Int)==0)=false:=beq_eq_false_iff_ne.2 (by omega)
    clear hn hd e
    go_enter func25,ntmps25
    go_wp2
    go_ret
    exact⟨rfl,(But.refl _ _).alloc _⟩
 ·have hn0:f.num≠0:=by
   intro e0
   have e1:=f.reduced
   rw[e0,Int.natAbs_zero,Nat.coprime_zero_left] at e1
   rw[e0] at hbig
   simp at hbig
   omega
  by_cases hn:f.num<0
  ·have e:f.num.sign=-1:=Int.sign_eq_neg_one_of_neg hn
   have hd:decide (f.num<0)=true:=decide_eq_true hn
   rw[e,hd]
   clear hn hd e hbig hn0
   go_enter func25,ntmps25
   go_wp2
   go_ret
   exact⟨rfl,(But.refl _ _).alloc _⟩
  ·have e:f.num.sign=1:=Int.sign_eq_one_of_pos (by omega)
   have hd:decide (f.num<0)=false:=decide_eq_false hn
   rw[e,hd]
   clear hn hd e hbig hn0
   go_enter func25,ntmps25
   go_wp2
   go_ret
   exact⟨rfl,(But.refl _ _).alloc _⟩
theorem qnk {w:World} {f:Rat} (r:Bool) (hr:r=decide (-f.num<0)) (v:Value) (h:(f.num.natAbs < 18446744073709551616∧f.den < 18446744073709551616∧v=.agg #[.bool r,.int .u64 (f.num.natAbs:Int),.int .u64 ((f.den:Int)-1),.pointer none])∨((18446744073709551616≤f.num.natAbs∨18446744073709551616≤f.den)∧∃ b v1 v2,v=.agg #[.bool r,.int .u64 0,.int .u64 0,.pointer (some ⟨b,0,none⟩)]∧w.cell? ⟨b,0,none⟩=some v1∧w.cell? ⟨b,1,none⟩=some v2∧Sl .u64 w v1 (wd 18446744073709551616 f.num.natAbs)∧Sl .u64 w v2 (wd 18446744073709551616 f.den))):aq w v (-f):=by
 unfold aq
 rw[Rat.neg_num,Rat.neg_den,Int.natAbs_neg,← hr]
 exact h
theorem qbm (v:Value) (f:Rat) (w:World) (hf:aq w v f) :
  Calls prog 74 #[v] w fun e w'=>∃ v',e=.returned v'∧aq w' v' (-f)∧But [] w w':=by
 have HSg:=af (fun W (h:aq W v f)=>j6 v f W h)
 have HF:=af hf
 obtain⟨s,x,y,p,rfl,hs,hsh⟩:∃ s x y p,v=.agg #[.bool s,.int .u64 x,.int .u64 y,.pointer p]∧s=decide (f.num<0)∧(∀ (W:World) (r:Bool),r=decide (-f.num<0)→But [] w W→aq W (.agg #[.bool r,.int .u64 x,.int .u64 y,.pointer p]) (-f)):=by
  rcases hf with ⟨hp,hq,rfl⟩|⟨hbig,b,v1,v2,rfl,k0,k1,k2,k3⟩
  ·exact⟨_,_,_,_,rfl,rfl,fun W r hr _=>qnk r hr _ (.inl ⟨hp,hq,rfl⟩)⟩
  ·exact⟨_,_,_,_,rfl,rfl,fun W r hr hb=>qnk r hr _ (.inr ⟨hbig,b,v1,v2,rfl,hb.ag k0 (by simp),hb.ag k1 (by simp),k2.ah hb,k3.ah hb⟩)⟩
 have HH:=af hsh
 clear hsh hf
 by_cases hn:f.num<0
 ·have e:s=true:=by rw[hs];exact decide_eq_true hn
  subst e
  have hr:Hid (false=decide (-f.num<0)):=by show _=_;rw[decide_eq_false];omega
  clear hs hn HSg HF
  go_enter func74,ntmps74
  go_wp2
  have hB:=((But.refl [] w).alloc (.cells #[.bool false,.int .u64 x,.int .u64 y,.pointer p] 27)).alloc (.cells #[.bool false,.int .u64 x,.int .u64 y,.pointer p] 27)
  exact bodyPost_ret (v:=.agg #[.bool false,.int .u64 x,.int .u64 y,.pointer p]) (by simp[results,results74,go_sem]) rfl ⟨_,rfl,ae HH _ false (ae hr) hB,hB⟩
 ·have e:s=false:=by rw[hs];exact decide_eq_false hn
  subst e
  obtain⟨r,hr⟩:∃ r,r=decide (-f.num<0):=⟨_,rfl⟩
  obtain⟨z,hz⟩:∃ z,z=f.num.sign:=⟨_,rfl⟩
  have hzr:(z != 0)=r:=by
   rw[hr,hz]
   by_cases h0:f.num=0
   ·rw[h0];rfl
   ·have h1:f.num.sign=1:=Int.sign_eq_one_of_pos (by omega)
    rw[h1]
    rw[decide_eq_true (by omega:-f.num<0)]
    rfl
  rw[← hz] at HSg
  obtain⟨W,hW⟩:∃ W,W=(w.alloc (.cells #[.bool false,.int .u64 x,.int .u64 y,.pointer p] 27)).alloc (.cells #[.bool false,.int .u64 0,.int .u64 0,.pointer none] 27):=⟨_,rfl⟩
  have hB:But [] w W:=by rw[hW];exact ((But.refl [] w).alloc _).alloc _
  have c0:W.cell? ⟨w.heap.size,0,none⟩=some (.bool false):=by rw[hW];simp
  have c1:W.cell? ⟨w.heap.size,1,none⟩=some (.int .u64 x):=by rw[hW];simp
  have c2:W.cell? ⟨w.heap.size,2,none⟩=some (.int .u64 y):=by rw[hW];simp
  have c3:W.cell? ⟨w.heap.size,3,none⟩=some (.pointer p):=by rw[hW];simp
  have d0:W.cell? ⟨w.heap.size+1,0,none⟩=some (.bool false):=by rw[hW];simp
  have d1:W.cell? ⟨w.heap.size+1,1,none⟩=some (.int .u64 0):=by rw[hW];simp
  have d2:W.cell? ⟨w.heap.size+1,2,none⟩=some (.int .u64 0):=by rw[hW];simp
  have d3:W.cell? ⟨w.heap.size+1,3,none⟩=some (.pointer none):=by rw[hW];simp
  have fz:∀ b j,w.heap.size≤b→W.frozen? ⟨b,j,none⟩=false:=by
   intro b j hb
   rw[hW]
   rcases Nat.lt_or_ge b (w.heap.size+2) with h1 | h1
   ·have:b=w.heap.size∨b=w.heap.size+1:=by omega
    rcases this with rfl|rfl <;> simp
   ·simp[World.frozen?,Array.getElem?_eq_none (show ((w.alloc (.cells #[.bool false,.int .u64 x,.int .u64 y,.pointer p] 27)).alloc (.cells #[.bool false,.int .u64 0,.int .u64 0,.pointer none] 27)).heap.size≤b by simp;omega)]
  have HW:=af hW
  have HS2:=af (ae HSg W ((ae HF).but hB))
  have HR:=af hr
  have HB:=af hB
  clear hW hs hn hr hz HSg HF hB
  go_enter func74,ntmps74
  go_wp2_with fail
  rw[← ae HW]
  refine (ae HS2).mono ?_
  rintro e w1 ⟨rfl,hb1⟩
  have k0:=hb1.ag c0 (by simp)
  have k1:=hb1.ag c1 (by simp)
  have k2:=hb1.ag c2 (by simp)
  have k3:=hb1.ag c3 (by simp)
  have l0:=hb1.ag d0 (by simp)
  have l1:=hb1.ag d1 (by simp)
  have l2:=hb1.ag d2 (by simp)
  have l3:=hb1.ag d3 (by simp)
  have hg1:w.heap.size<W.heap.size:=ai c0
  have hg2:w.heap.size+1<W.heap.size:=ai d0
  have f1:∀ j,w1.frozen? ⟨w.heap.size,j,none⟩=false:=fun j=>(hb1.frozen (p:=⟨w.heap.size,j,none⟩) hg1 (by simp)).trans (fz _ j (Nat.le_refl _))
  have f2:∀ j,w1.frozen? ⟨w.heap.size+1,j,none⟩=false:=fun j=>(hb1.frozen (p:=⟨w.heap.size+1,j,none⟩) hg2 (by simp)).trans (fz _ j (by omega))
  have HB1:Hid (But [] w w1):=(ae HB).trans' hb1
  clear hb1 c0 c1 c2 c3 d0 d1 d2 d3 fz HW HS2 hg1 hg2
  obtain⟨ga,hga⟩:∃ ga,ga=w.heap.size:=⟨_,rfl⟩
  obtain⟨gb,hgb⟩:∃ gb,gb=w.heap.size+1:=⟨_,rfl⟩
  rw[← hga] at k0 k1 k2 k3 f1
  rw[← hgb] at l0 l1 l2 l3 f2
  rw[← hgb,← hga]
  have hab:ga≠gb:=by omega
  have ha:Hid (w.heap.size≤ga):=Nat.le_of_eq hga.symm
  have hb:Hid (w.heap.size≤gb):=by show _≤_;omega
  clear hga hgb
  go_wp2
  have hBf:=((((((ae HB1).setCell (p:=⟨ga,0,none⟩) (.inr (ae ha)) (.bool r)).setCell (p:=⟨gb,0,none⟩) (.inr (ae hb)) (.bool r)).setCell (p:=⟨gb,1,none⟩) (.inr (ae hb)) (.int .u64 x)).setCell (p:=⟨gb,2,none⟩) (.inr (ae hb)) (.int .u64 y)).setCell (p:=⟨gb,3,none⟩) (.inr (ae hb)) (.pointer p))
  exact bodyPost_ret (v:=.agg #[.bool r,.int .u64 x,.int .u64 y,.pointer p]) (by simp[results,results74,go_sem,l0,l1,l2,l3]) rfl ⟨_,rfl,ae HH _ r (ae HR) hBf,hBf⟩
theorem zuf (x:Int) (h1:-9223372036854775808≤x) (h2:x<9223372036854775808) (w:World) :
  Calls prog 71 #[.int .i64 x] w fun e w'=>e=.returned (.agg #[.bool (decide (x<0)),.int .u64 ((x.natAbs:Nat):Int),.int .u64 (((1:Nat):Int)-1),.pointer none])∧But [] w w':=by
 obtain⟨s,hs⟩:∃ s,s=decide (x<0):=⟨_,rfl⟩
 obtain⟨n,hn⟩:∃ n,n=x.natAbs:=⟨_,rfl⟩
 rw[← hs,← hn]
 have HS:=af hs
 have HN:=af hn
 go_enter func71,ntmps71
 go_wp2_with fail
 refine (zqi x h1 h2 _).mono ?_
 rintro e w1 ⟨rfl,hw⟩
 obtain rfl:=hw.symm
 go_wp2
 exact bodyPost_ret (v:=.agg #[.bool (decide (x<0)),.int .u64 ((x.natAbs:Nat):Int),.int .u64 0,.pointer none]) (by simp[results,results71,go_sem]) rfl ⟨by rw[ae HS,ae HN];rfl,(But.refl _ _).alloc _⟩
def qo (j:Nat):Nat:=10^(608*2^j)
theorem zug:qo 0=10^608:=by unfold qo;rw[Nat.pow_zero,Nat.mul_one]
theorem zjh (j:Nat):qo (j+1)=qo j*qo j:=by
 unfold qo
 rw[← Nat.pow_add,Nat.pow_succ,← Nat.mul_two,Nat.mul_assoc]
theorem zqa (j:Nat):0<qo j:=Nat.pow_pos (by omega)
theorem qpn (j:Nat):j<qo j:=by
 unfold qo
 have h1:j<2^j:=Nat.lt_two_pow_self
 have h2:608*2^j<10^(608*2^j):=Nat.lt_pow_self (by omega)
 omega
theorem zqb (X j n:Nat) (hl:(wd 18446744073709551616 X).length≤n) (h:qo j≤X):1824*2^j<64*n:=by
 have h1:X < 18446744073709551616^n:=am (by omega) X _ hl
 have h2:(2:Nat)^(1824*2^j)≤qo j:=by
  unfold qo
  have e:(2:Nat)^(1824*2^j)=(2^3)^(608*2^j):=by rw[← Nat.pow_mul,← Nat.mul_assoc]
  rw[e]
  exact Nat.pow_le_pow_left (by omega) _
 have h3:(18446744073709551616:Nat)^n=2^(64*n):=by rw[Nat.pow_mul]
 rw[h3] at h1
 have h4:(2:Nat)^(1824*2^j)<2^(64*n):=Nat.lt_of_le_of_lt h2 (Nat.lt_of_le_of_lt h h1)
 exact (Nat.pow_lt_pow_iff_right (by omega:1<2)).1 h4
theorem qnx:∃ i,prog.info? 92 = some i∧i.zero=some (.slice none 0 0)∧i.size=1∧i.bytes=24:=by
 have h:(prog.info? 92).map (fun i=>(i.zero,i.size,i.bytes))=some (some (.slice none 0 0),1,24):=by kernel_rfl
 obtain⟨i,hi,he⟩:=Option.map_eq_some_iff.1 h
 simp only[Prod.mk.injEq] at he
 exact⟨i,hi,he.1,he.2.1,he.2.2⟩
theorem ztr {w w':World} {base:Nat} {e:TypeId} {vo:Value} {n:Nat} {xs:List Value} (ho:w.ownsRow base e 1 vo n xs) (hn:vo=.slice none 0 0∨∃ u,xs[0]? = some u∧∀ m:Int,u≠.int .u64 m) (hg:w.grownBy w' vo.ownBlock):o7 w w':=by
 intro v ws hs
 cases hb:vo.ownBlock with
 | none=>rw[hb] at hg;exact hs.ah (zby hg)
 | some g =>
  rw[hb] at hg
  rcases hn with rfl|⟨u,hu,hne⟩
  ·simp[Value.ownBlock] at hb
  ·have hc:=ho.cells hb 0 u hu
   rw[show (⟨g,0,none⟩:Addr).add 0=⟨g,0,none⟩ from by simp[Addr.add]] at hc
   exact hs.over (zjn hg) hc hne
structure zfv (w:World) (X:Nat) (us:List Value) (vo vp:Value) (wr:World):Prop where
 own:wr.ownsRow w.heap.size 92 1 vo us.length us
 all:∀ j u,us[j]? = some u→Sl .u64 wr u (wd 18446744073709551616 (qo j))
 pow:Sl .u64 wr vp (wd 18446744073709551616 (qo us.length))
 but:But [] w wr
 low:∀ j,j<us.length→qo j≤X
 nil:vo=.slice none 0 0∨0<us.length
theorem zfv.le {w:World} {X:Nat} {us:List Value} {vo vp:Value} {wr:World} (h:zfv w X us vo vp wr):us.length≤X:=by
 rcases Nat.eq_zero_or_pos us.length with h0 | h0
 ·omega
 ·have h1:=h.low (us.length-1) (by omega)
  have h2:=qpn (us.length-1)
  omega
theorem zfv.first {w:World} {X:Nat} {us:List Value} {vo vp:Value} {wr:World} (h:zfv w X us vo vp wr):vo=.slice none 0 0∨∃ u,us[0]? = some u∧∀ m:Int,u≠.int .u64 m:=by
 rcases h.nil with h0 | h0
 ·exact .inl h0
 ·refine .inr ⟨us[0],List.getElem?_eq_getElem h0,fun m e=>?_⟩
  have:=h.all 0 us[0] (List.getElem?_eq_getElem h0)
  rw[e] at this
  obtain⟨a,c,h1,-⟩:=this
  simp at h1
theorem zfv.drewN {w:World} {X:Nat} {us:List Value} {vo vp:Value} {wr:World} (h:zfv w X us vo vp wr) (q:Nat):zfv w X us vo vp (wr.drewN q) :=
 ⟨zdg h.own ((But.refl [] _).drewN q),fun j u hj=>(h.all j u hj).ah ((But.refl [] _).drewN q),h.pow.ah ((But.refl [] _).drewN q),h.but.drewN q,h.low,h.nil⟩
theorem zfv.jan {w:World} {X:Nat} {us:List Value} {vo vp:Value} {wr:World} (h:zfv w X us vo vp wr):(wd 18446744073709551616 (qo us.length)).length≤(wd 18446744073709551616 X).length+(wd 18446744073709551616 X).length+33:=by
 rcases Nat.eq_zero_or_pos us.length with h0 | h0
 ·rw[h0,zug]
  have:=aj (B:=18446744073709551616) (by omega) _ _ qjo
  omega
 ·obtain⟨j,hj⟩:∃ j,us.length=j+1:=⟨us.length-1,by omega⟩
  have h1:=aw (h.low j (by omega))
  have h2:=jq (qo j) (qo j)
  rw[hj,zjh]
  omega
theorem zfv.more {w:World} {X:Nat} {us:List Value} {vo vp:Value} {wr:World} (h:zfv w X us vo vp wr) (hle:qo us.length≤X) (hul:us.length<35088) (W:World) (hW:W=wr.alloc (.cells #[vp] 92)) :
  ∃ v3 w3,(Builtin.append_ #[154,154] 154 #[vo,.slice (some ⟨wr.heap.size,0,none⟩) 1 1]).run prog W=.ok v3 w3∧w3.ownsRow w.heap.size 92 1 v3 (us++[vp]).length (us++[vp])∧(∀ j u,(us++[vp])[j]? = some u→Sl .u64 w3 u (wd 18446744073709551616 (qo j)))∧Sl .u64 w3 vp (wd 18446744073709551616 (qo us.length))∧But [] w w3∧(∀ j,j<(us++[vp]).length→qo j≤X)∧o7 wr w3:=by
 obtain⟨i0,hi,hz0,hz1,hz2⟩:=qnx
 subst hW
 have hp1:vp.oneCell'=true:=by
  obtain⟨a,c,rfl,-⟩:=h.pow
  rfl
 have hc:(wr.alloc (.cells #[vp] 92)).cell? ⟨wr.heap.size,0,none⟩=some vp:=by simp
 have hbs:=h.but.size
 obtain⟨v3,w3,hr,ho,hg,-⟩:=run_append_own (P:=prog) (wr.alloc (.cells #[vp] 92)) w.heap.size 154 154 92 i0 (.slice none 0 0) 1 24 underlying154 hi hz0 hz1 hz2 rfl (by decide) vo us.length us (h.own.alloc _) ⟨wr.heap.size,0,none⟩ 1 1 [vp] rfl (fun j u hj=>by
  cases j with
  | zero=>simp at hj;subst hj;rw[show (⟨wr.heap.size,0,none⟩:Addr).add 0=⟨wr.heap.size,0,none⟩ from by simp[Addr.add]];exact hc
  | succ j=>simp at hj) (fun u hu=>by simp at hu;subst hu;exact hp1) (by unfold maxLen;omega) (by omega) (by simp;omega)
 have hK:o7 wr w3:=(o7.znh ((But.refl [] wr).alloc _)).trans (ztr (h.own.alloc _) h.first hg)
 refine⟨v3,w3,hr,by rw[List.length_append];exact ho,fun j u hj=>?_,hK _ _ h.pow,(h.but.alloc _).grown hg (fun k hk=>(h.own.lt k hk).1),fun j hj=>?_,hK⟩
 ·rcases Nat.lt_or_ge j us.length with hl | hl
  ·rw[List.getElem?_append_left hl] at hj
   exact hK _ _ (h.all j u hj)
  ·have he:j=us.length:=by
    have:=(List.getElem?_eq_some_iff.1 hj).1
    simp at this
    omega
   subst he
   simp at hj
   subst hj
   exact hK _ _ h.pow
 ·simp at hj
  rcases Nat.lt_or_ge j us.length with hl | hl
  ·exact h.low j hl
  ·rw[show j=us.length from by omega];exact hle
theorem ztj (v:Value) (X:Nat) (w:World) (hv:Sl .u64 w v (wd 18446744073709551616 X)) (hl:(wd 18446744073709551616 X).length≤1000000) :
  Calls prog 92 #[v] w fun e w'=>∃ vo us,e=.returned vo∧w'.ownsRow w.heap.size 92 1 vo us.length us∧(∀ j u,us[j]? = some u→Sl .u64 w' u (wd 18446744073709551616 (qo j)))∧But [] w w'∧(∀ j,j<us.length→qo j≤X)∧X<qo us.length:=by
 have h10:(wd 18446744073709551616 (10^608)).length≤33:=aj (by omega) _ _ qjo
 have h1:(wd 18446744073709551616 10).length≤1:=aj (by omega) _ _ (by omega)
 have PW:Hid (∀ (v1:Value) (W:World),Sl .u64 W v1 (wd 18446744073709551616 10)→Calls prog 143 #[v1,.int .i64 608] W fun e w'=>∃ v',e=.returned v'∧Sl .u64 w' v' (wd 18446744073709551616 (qo 0))∧But [] W w'):=fun v1 W h=>by
  rw[zug]
  exact qdk v1 10 608 W h (by omega) (by omega) (Nat.lt_of_le_of_lt (Nat.add_le_add h1 h10) (by omega))
 have HV:=af hv
 have HLX:=af hl
 clear hv h10 h1 hl
 obtain⟨xa,xc,rfl,-,-⟩:=ae HV
 generalize hnx:(wd 18446744073709551616 X).length=nx at *
 have NX:=af hnx
 clear hnx
 go_enter func92,ntmps92
 go_wp2_with fail
 refine (zbf 10 (by omega) _).mono ?_
 rintro e w1 ⟨v1,rfl,hv1,hb1,-⟩
 have H1:=af hv1
 have B1:=af hb1
 clear hv1 hb1
 go_wp2_with fail
 refine (ae PW v1 _ (ae H1)).mono ?_
 rintro e w2 ⟨v2,rfl,hv2,hb2⟩
 have A0:Hid (∃ us,zfv w X us (.slice none 0 0) v2 w2∧X+1+us.length=X+1 ):=⟨[],⟨World.ownsRow_nil _ _ _ _,fun j u h=>by simp at h,hv2,(ae B1).trans' hb2,fun j h=>by simp at h,.inl rfl⟩,by simp⟩
 clear hv2 hb2 B1 H1 PW
 go_wp2_with fail
 go_loopg [3,4] (X+1) (fun k vo vp wr=>Hid (∃ us,zfv w X us vo vp wr∧k+us.length=X+1))
 case atStart=>exact A0
 case round =>
  clear A0
  obtain⟨us,hI,hk⟩:=ae hrel
  clear hrel
  rename World=>wr
  obtain⟨oa,oc,hoe⟩:=ul hI.own
  have hpl:=hI.jan
  rw[ae NX] at hpl
  have hlx:=ae HLX
  have CM:=af (oq _ _ (qo us.length) X wr hI.pow ((ae HV).ah hI.but) (by omega) (by rw[ae NX];omega))
  obtain⟨pa,pc,hpe,-,-⟩:=id hI.pow
  rcases Nat.lt_or_ge X (qo us.length) with hlt | hge
  ·have hc:zz (qo us.length) X=1:=by
    rcases zfd (qo us.length) X with ⟨h,-⟩|⟨h,-⟩|⟨-,h⟩
    ·omega
    ·omega
    ·exact h
   rw[hc] at CM
   have FIN:=af (And.intro hI (And.intro hlt hoe))
   subst hoe hpe
   clear hI hpl hlt hc hk
   generalize (wd 18446744073709551616 (qo us.length)).length=np at *
   go_wp2_with fail
   refine (ae CM).mono ?_
   rintro e w3 ⟨rfl,q,rfl⟩
   go_wp2
   go_ret
   exact⟨_,us,rfl,(ae FIN).1.own,(ae FIN).1.all,(ae FIN).1.but.drewN q,(ae FIN).1.low,(ae FIN).2.1⟩
  ·have hc:zz (qo us.length) X≤0:=by
    rcases zfd (qo us.length) X with ⟨-,h⟩|⟨-,h⟩|⟨h,-⟩
    ·omega
    ·omega
    ·omega
   generalize zz (qo us.length) X=r at *
   have hr:decide (r≤0)=true:=by simp;omega
   have hL:us.length≤X:=hI.le
   have h35:=zqb X us.length nx (by rw[ae NX];exact Nat.le_refl _) hge
   have hul:us.length<35088:=Nat.lt_trans Nat.lt_two_pow_self (by omega)
   have HI:=af hI
   have HR:=af (And.intro hk (And.intro hL hge))
   obtain⟨np,hnp⟩:∃ np,np=(wd 18446744073709551616 (qo us.length)).length:=⟨_,rfl⟩
   have NP:=af hnp
   rw[← hnp] at hpe hpl
   have hnp0:0<np:=by
    rw[hnp,Nat.pos_iff_ne_zero];intro e;rw[zt (by omega)] at e
    have:=zqa us.length
    omega
   have MO:=af (fun q=>(hI.drewN q).more hge hul _ rfl)
   have MU:=af (fun W (h:Sl .u64 W u4 (wd 18446744073709551616 (qo us.length)))=>ve u4 u4 _ _ W h h (by rw[← hnp];omega))
   rw[← zjh] at MU
   clear hI hk hL hge h35 hnp hc
   have SH:=af hoe
   generalize us.length=L at hoe hul
   subst hoe hpe
   have hmul:wrap64 (2*(np:Int))=2*(np:Int):=by unfold wrap64;omega
   go_wp2_with fail
   refine (ae CM).mono ?_
   rintro e w3 ⟨rfl,q,rfl⟩
   obtain⟨v3,w3,hr3,ho3,ha3,hs3,hb3,hl3,hk3⟩:=ae MO q
   have HR3:=af hr3
   have AL:=af (And.intro ho3 (And.intro ha3 (And.intro hs3 (And.intro hb3 hl3))))
   clear hr3 ho3 ha3 hs3 hb3 hl3 hk3 MO
   by_cases hbr:nx<2*np-1
   ·have hbi:(nx:Int)<2*(np:Int)-1:=by omega
    have FIN:Hid (X<qo (us++[Value.slice pa np pc]).length):=by
     have h1:X < 18446744073709551616^nx:=am (by omega) X _ (Nat.le_of_eq (ae NX))
     have h2:18446744073709551616^(np-1)≤qo us.length:=by
      rcases Nat.lt_or_ge (qo us.length) (18446744073709551616^(np-1)) with h | h
      ·have:=aj (B:=18446744073709551616) (by omega) _ _ h
       rw[← ae NP] at this
       omega
      ·exact h
     show _<_
     rw[List.length_append,List.length_singleton,zjh]
     refine Nat.lt_of_lt_of_le h1 (Nat.le_trans ?_ (Nat.mul_le_mul h2 h2))
     rw[← Nat.pow_add]
     exact Nat.pow_le_pow_right (by omega) (by omega)
    clear HI MU CM HR NP SH
    go_wp2_with (at_builtin;refine qw rfl _ _ 154 154 rfl _ _ v3 w3 rfl rfl (ae HR3) ?_)
    go_ret
    exact⟨v3,_,rfl,(ae AL).1,(ae AL).2.1,(ae AL).2.2.2.1,(ae AL).2.2.2.2,ae FIN⟩
   ·have hbi:¬ ((nx:Int)<2*(np:Int)-1):=by omega
    clear CM
    go_wp2_with (at_builtin;refine qw rfl _ _ 154 154 rfl _ _ v3 w3 rfl rfl (ae HR3) ?_)
    go_wp2_with fail
    refine (ae MU _ (ae AL).2.2.1).mono ?_
    rintro e w4 ⟨v4,rfl,hv4,hb4,-⟩
    have R:Hid (∃ us',zfv w X us' v3 v4 w4∧gk-1+us'.length=X+1):=by
     refine⟨_,⟨zdg (ae AL).1 hb4,fun j u hj=>((ae AL).2.1 j u hj).ah hb4,?_,(ae AL).2.2.2.1.trans' hb4,(ae AL).2.2.2.2,.inr (by simp)⟩,?_⟩
     ·rw[List.length_append,List.length_singleton];exact hv4
     ·have:=ae HR
      rw[List.length_append,List.length_singleton]
      omega
    have GK:Hid (0<gk):=by have:=ae HR;show _<_;omega
    clear hv4 hb4 AL HI HR MU NP
    go_wp2
    go_roundg (gk-1)
    case measure=>have:=ae GK;omega
    case rel=>exact ae R
end Go.Proofs.YtffghofheeleeaaGreatDoor
