/- Short numbers' plain value; a number div -/
import Derived.Laws.MakeOwn
import Derived.Laws.Bits64b
import Derived.Test.YtollloafckcogaaGreatDoorKYH1
import Derived.Test.YtollloafckcogaaGreatDoorKYHa
namespace Go.Proofs.YtollloafckcogaaGreatDoor
open Go.RowKit
set_option maxHeartbeats 2000000
set_option maxRecDepth 100000
theorem wd_two (m:Nat) (h:m<18446744073709551616):(m=0∧wd 4294967296 m=[])∨(0<m∧m<4294967296∧wd 4294967296 m=[m])∨(4294967296≤m∧wd 4294967296 m=[m%4294967296,m/4294967296]):=by
 rcases Nat.eq_zero_or_pos m with rfl | h0
 ·exact .inl ⟨rfl,wd_zero _⟩
 ·rcases Nat.lt_or_ge m 4294967296 with h1 | h1
  ·refine .inr (.inl ⟨h0,h1,?_⟩)
   rw [wd_pos (by omega) h0,Nat.mod_eq_of_lt h1,Nat.div_eq_of_lt h1,wd_zero]
  ·refine .inr (.inr ⟨h1,?_⟩)
   rw [wd_pos (by omega) h0,wd_pos (by omega) (by omega:0<m/4294967296),Nat.mod_eq_of_lt (by omega:m/4294967296<4294967296),Nat.div_eq_of_lt (by omega:m/4294967296<4294967296),wd_zero]
theorem or_lo (a b:Nat) (ha:a<4294967296) (hb:b<4294967296):bits .or .u64 (a:Int) ((b:Int)*4294967296)=((a+b*4294967296:Nat):Int):=by
 have e:(b:Int)*4294967296=((b*4294967296:Nat):Int):=by omega
 rw [e,bits_or_u64_nat a _ (by omega) (by omega),Nat.or_comm]
 have h:=Nat.two_pow_add_eq_or_of_lt (i:=32) (b:=a) (by omega) b
 rw [show (2:Nat)^32=4294967296 from rfl,Nat.mul_comm] at h
 rw [← h,Nat.add_comm]
theorem or_hi (a b:Nat) (ha:a<4294967296) (hb:b<4294967296):bits .or .u64 ((b:Int)*4294967296) (a:Int)=((a+b*4294967296:Nat):Int):=by
 have e:(b:Int)*4294967296=((b*4294967296:Nat):Int):=by omega
 rw [e,bits_or_u64_nat _ a (by omega) (by omega)]
 have h:=Nat.two_pow_add_eq_or_of_lt (i:=32) (b:=a) (by omega) b
 rw [show (2:Nat)^32=4294967296 from rfl,Nat.mul_comm] at h
 rw [← h,Nat.add_comm]
theorem plain_any (v:Value) (m:Nat) (w:World) (hv:Sl .u32 w v (wd 4294967296 m)) (hm:m<18446744073709551616) :
  Calls Tryz.prog 167 #[v] w fun e w'=>e=.returned (.int .u64 m)∧w'=w:=by
 rcases wd_two m hm with ⟨rfl,e⟩ | ⟨h0,h1,e⟩ | ⟨h1,e⟩
 ·rw [e] at hv
  obtain ⟨a,cap,rfl,-,-⟩:=hv
  go_enter Tryz.func167,Tryz.ntmps167
  go_wp2
  go_ret
  exact ⟨rfl,rfl⟩
 ·rw [e] at hv
  rcases hv.open with ⟨h,-⟩ | ⟨-,b,off,cap,rfl,hc,hb,hcell⟩
  ·simp at h
  ·have c0:=hcell 0 (by simp)
   simp at c0
   clear hcell e hv
   go_enter Tryz.func167,Tryz.ntmps167
   go_wp2
   go_ret
   exact ⟨rfl,rfl⟩
 ·rw [e] at hv
  rcases hv.open with ⟨h,-⟩ | ⟨-,b,off,cap,rfl,hc,hb,hcell⟩
  ·simp at h
  ·have c0:=hcell 0 (by simp)
   have c1:=hcell 1 (by simp)
   simp at c0 c1
   clear hcell e hv
   go_enter Tryz.func167,Tryz.ntmps167
   go_wp2
   go_ret
   have e1:(m:Int)%4294967296=((m%4294967296:Nat):Int):=by omega
   have e2:(m:Int)/4294967296=((m/4294967296:Nat):Int):=by omega
   refine ⟨?_,rfl⟩
   show Ending.returned (.int .u64 (bits .or .u64 ((m:Int)%4294967296) ((m:Int)/4294967296*4294967296)))=_
   rw [e1,e2,or_lo _ _ (by omega) (by omega),show m%4294967296+m/4294967296*4294967296=m from by omega]
theorem mod_same (q:Nat) (h:q<4294967296):(q:Int)%4294967296=(q:Int):=by omega
structure SmallIn (xs qs:List Nat) (d k r:Nat):Prop where
 len:qs.length=xs.length
 mem:∀ x ∈ qs,x<4294967296
 quo:vl 4294967296 (qs.drop k)=vl 4294967296 (xs.drop k)/d
 rem:r=vl 4294967296 (xs.drop k)%d
theorem SmallIn.start (xs:List Nat) (d:Nat):SmallIn xs (List.replicate xs.length 0) d xs.length 0 :=
 ⟨by simp,by intro x hx;rw [List.mem_replicate] at hx;omega,by simp [vl],by simp [vl]⟩
theorem SmallIn.step {xs qs:List Nat} {d k r:Nat} (h:SmallIn xs qs d (k+1) r) (hd:0<d) (hd2:d<4294967296) (hk:k<xs.length) (hx:xs[k]?.getD 0<4294967296) (t:Nat) (ht:t=xs[k]?.getD 0+r*4294967296) :
  r<4294967296∧t<18446744073709551616∧t/d<4294967296∧t%d<4294967296∧SmallIn xs (qs.set k (t/d)) d k (t%d):=by
 have hr:r<d:=by rw [h.rem];exact Nat.mod_lt _ hd
 have ht2:t/d<4294967296:=by
  rw [Nat.div_lt_iff_lt_mul hd]
  have:(r+1)*4294967296≤d*4294967296:=Nat.mul_le_mul_right _ hr
  rw [Nat.mul_comm 4294967296 d]
  omega
 have htm:=Nat.mod_lt t hd
 have hkq:k<qs.length:=by rw [h.len];exact hk
 have e:vl 4294967296 (xs.drop k)=t+4294967296*(vl 4294967296 (xs.drop (k+1))/d)*d:=by
  have h1:=vl_drop 4294967296 xs k hk
  have h2:=Nat.mod_add_div (vl 4294967296 (xs.drop (k+1))) d
  rw [← h.rem] at h2
  have h3:4294967296*vl 4294967296 (xs.drop (k+1))=4294967296*r+4294967296*(vl 4294967296 (xs.drop (k+1))/d)*d:=by
   rw [Nat.mul_assoc,Nat.mul_comm (_/d) d,← Nat.mul_add,h2]
  omega
 refine ⟨by omega,by omega,ht2,by omega,by rw [List.length_set];exact h.len,mem_set h.mem _ _ ht2,?_,?_⟩
 ·rw [e,Nat.add_mul_div_right _ _ hd,vl_drop 4294967296 _ k (by rw [List.length_set];exact hkq),List.getElem?_set_self hkq,List.drop_set_of_lt (by omega),h.quo]
  rfl
 ·rw [e,Nat.add_mul_mod_self_right]
theorem small_any2 (v:Value) (m d:Nat) (w:World) (hv:Sl .u32 w v (wd 4294967296 m)) (hd:0<d) (hd2:d<4294967296) (hl:(wd 4294967296 m).length<1073741824) :
  Calls Tryz.prog 166 #[v,.int .u32 d] w fun e w'=>∃ v',e=.returned (.tuple #[v',.int .u32 (m%d:Nat)])∧Sl .u32 w' v' (wd 4294967296 (m/d))∧But [] w w'∧Fresh w.heap.size v':=by
 have mm:=wd_mem (B:=4294967296) (by omega) m
 have em:=vl_wd (B:=4294967296) (by omega) m
 generalize wd 4294967296 m=xs at *
 subst em
 have hdb:((d:Int)==0)=false:=by simp;omega
 obtain ⟨ti,hi,hz,hs,hbt⟩:=info_u32
 have hmk:=fun wx=>run_make (P:=Tryz.prog) wx 88 188 ti (.int .u32 0) Tryz.underlying88 hi hz .i64 .i64 (xs.length:Int) (xs.length:Int) (by omega) (by omega) (by rw [hbt];omega) (by omega)
 rw [hs] at hmk
 simp only [Int.toNat_natCast,Nat.mul_one] at hmk
 clear hi hz hs hbt ti
 have MM:=hide mm
 clear mm
 rcases hv.open with ⟨rfl,a,cap,rfl⟩ | ⟨h0,b,off,cap,rfl,hc,hbl,hcell⟩
 ·simp only [List.length_nil,Int.natCast_zero] at hmk
  clear MM hl
  go_enter Tryz.func166,Tryz.ntmps166
  go_wp2
  refine wp_loop_rounds 1 ?_
  rw [rounds_succ]
  go_wp2_with fail
  have hS:Sl .u32 (w.alloc (.cells (madeCells #[.int .u32 0] 0) 188)) (.slice (some ⟨w.heap.size,0,none⟩) 0 0) []:=Sl.mk (xs:=[]) w.heap.size 0 0 (Nat.le_refl _) (fun i hi=>by simp at hi) (fun h=>by simp at h)
  refine (trim_any2 _ [] _ hS (by simp) (by simp)).mono ?_
  rintro e w' ⟨v',rfl,hs,rfl,hfr⟩
  have HF:Fresh w.heap.size v':=fresh_of hfr (Nat.le_refl _)
  clear hfr
  go_wp2
  go_ret2
  simp only [vl,Nat.zero_div,Nat.zero_mod] at hs ⊢
  exact ⟨v',rfl,hs,(But.refl _ _).alloc _,HF⟩
 ·have HC:=hide hcell
  clear hcell hv
  go_enter Tryz.func166,Tryz.ntmps166
  go_wp2
  go_loopw [7,8] (fun r i wr=>∃ (k rN:Nat) (qs:List Nat),k≤xs.length∧i=.int .i64 ((k:Int)-1)∧r=.int .u64 rN∧rN<d∧Hid (SmallIn xs qs d k rN∧But [] w wr∧RowI .u32 wr w.heap.size qs)) (fun _ i _=>(intOf i+1).toNat)
  case atStart=>exact ⟨xs.length,0,List.replicate xs.length 0,Nat.le_refl _,rfl,rfl,hd,SmallIn.start xs d,(But.refl _ _).alloc _,RowI.made _ _ _ _⟩
  case round =>
   obtain ⟨k,rN,qs,hk,rfl,rfl,hrN,HI⟩:=hrel
   rename World=>wr
   by_cases hk0:k=0
   ·subst hk0
    go_wp2_with fail
    have hI:=unhide HI
    have hS:=hI.2.2.sl xs.length (by rw [hI.1.len];exact Nat.le_refl _)
    rw [hI.1.len] at hS
    refine (trim_any2 _ qs _ hS hI.1.mem (by rw [hI.1.len];omega)).mono ?_
    rintro e w' ⟨v',rfl,hs,rfl,hfr⟩
    have HF:Fresh w.heap.size v':=fresh_of hfr (Nat.le_refl _)
    clear hfr
    go_wp2
    go_ret2
    have hq:=hI.1.quo
    have hr:=hI.1.rem
    simp only [List.drop_zero] at hq hr
    rw [hq] at hs
    exact ⟨v',by rw [← hr];rfl,hs,hI.2.1,HF⟩
   ·obtain ⟨i,rfl⟩:∃ i,k=i+1:=⟨k-1,by omega⟩
    rw [show (((i+1:Nat):Int)-1)=(i:Int) from by omega]
    have hil:i<qs.length:=by rw [(unhide HI).1.len];omega
    have cx:=(unhide HI).2.1.cell_some (unhide HC i (by omega)) (by simp)
    have hxB:xs[i]?.getD 0<4294967296:=mem_getD (unhide MM) (by omega) i
    obtain ⟨cr,fr⟩:=(unhide HI).2.2.row i hil
    have ST:=hide ((unhide HI).1.step hd hd2 (by omega) hxB _ rfl)
    have OR:=or_hi (xs[i]?.getD 0) rN hxB (by omega)
    generalize xs[i]?.getD 0=x at *
    generalize qs[i]?.getD 0=r0 at *
    go_wp2
    have hS:=unhide ST
    have hR:=(unhide HI).2.2
    have e1:((x:Int)+(rN:Int)*4294967296)=((x+rN*4294967296:Nat):Int):=by omega
    rw [e1]
    generalize x+rN*4294967296=t at *
    have e2:(t:Int)/(d:Int)%4294967296=((t/d:Nat):Int):=by rw [← Int.natCast_ediv];exact mod_same _ hS.2.2.1
    have e3:(t:Int)%(d:Int)=((t%d:Nat):Int):=by rw [Int.natCast_emod]
    rw [e2,e3]
    refine ⟨⟨i,t%d,qs.set i (t/d),by omega,rfl,rfl,Nat.mod_lt _ hd,hS.2.2.2.2,(unhide HI).2.1.setCell (by simp) _,hR.set _ hil _⟩,?_⟩
    simp [intOf]
theorem small_any (v:Value) (m d:Nat) (w:World) (hv:Sl .u32 w v (wd 4294967296 m)) (hd:0<d) (hd2:d<4294967296) (hl:(wd 4294967296 m).length<1073741824) :
  Calls Tryz.prog 166 #[v,.int .u32 d] w fun e w'=>∃ v',e=.returned (.tuple #[v',.int .u32 (m%d:Nat)])∧Sl .u32 w' v' (wd 4294967296 (m/d))∧But [] w w' :=
 (small_any2 v m d w hv hd hd2 hl).mono fun _ _ ⟨v',h1,h2,h3,_⟩=>⟨v',h1,h2,h3⟩
end Go.Proofs.YtollloafckcogaaGreatDoor

namespace Go.Proofs.YtollloafckcogaaGreatDoor
theorem rat_of_coprime (n:Int) (d:Nat) (hd:d≠0) (hc:n.natAbs.Coprime d) (q:Rat) (h:q.num*d=n*q.den):q.num=n∧q.den=d:=by
 have e:q=⟨n,d,hd,hc⟩:=by
  rw [Rat.mk_eq_mkRat,← Rat.mkRat_self q,Rat.mkRat_eq_iff q.den_nz hd]
  exact h
 rw [e]
 exact ⟨rfl,rfl⟩
def sgn (s:Bool) (m:Nat):Int:=if s then -(m:Int) else (m:Int)
theorem sgn_abs (s:Bool) (m:Nat):(sgn s m).natAbs=m:=by cases s <;> simp [sgn]
theorem sgn_mul (s:Bool) (m k:Nat):sgn s (m*k)=sgn s m*k:=by cases s <;> simp [sgn,Int.neg_mul]
theorem cross_add (f g:Rat):(f+g).num*(f.den*g.den:Nat)=(f.num*g.den+g.num*f.den)*(f+g).den:=by
 have h:=Rat.add_def' f g
 rw [← Rat.mkRat_self (f+g),Rat.mkRat_eq_iff (f+g).den_nz (Nat.mul_ne_zero f.den_nz g.den_nz)] at h
 exact h
theorem cross_mul (f g:Rat):(f*g).num*(f.den*g.den:Nat)=(f.num*g.num)*(f*g).den:=by
 have h:=Rat.mul_def' f g
 rw [← Rat.mkRat_self (f*g),Rat.mkRat_eq_iff (f*g).den_nz (Nat.mul_ne_zero f.den_nz g.den_nz)] at h
 exact h
theorem cop_sum (a c:Int) (b b' d':Nat) (hab:a.natAbs.Coprime b) (hb:b' ∣ b) (hbd:b'.Coprime d'):(a*d' + c*b').natAbs.Coprime b':=by
 rw [Nat.Coprime]
 have hp1:Nat.gcd (a*d' + c*b').natAbs b' ∣ b':=Nat.gcd_dvd_right _ _
 have hp2:Nat.gcd (a*d' + c*b').natAbs b' ∣ (a*d' + c*b').natAbs:=Nat.gcd_dvd_left _ _
 generalize Nat.gcd (a*d' + c*b').natAbs b'=p at *
 have h1:(p:Int) ∣ a*d' + c*b':=Int.ofNat_dvd_left.2 hp2
 have h2:(p:Int) ∣ c*b':=Int.dvd_mul_of_dvd_right (Int.natCast_dvd_natCast.2 hp1)
 have h3:(p:Int) ∣ a*d':=(Int.dvd_add_left h2).1 h1
 have h4:p ∣ a.natAbs*d':=by
  have:=Int.ofNat_dvd_left.1 h3
  rwa [Int.natAbs_mul,Int.natAbs_natCast] at this
 have h5:p.Coprime a.natAbs:=Nat.Coprime.coprime_dvd_left (Nat.dvd_trans hp1 hb) hab.symm
 have h6:p ∣ d':=h5.dvd_of_dvd_mul_left h4
 have h7:p ∣ Nat.gcd b' d':=Nat.dvd_gcd hp1 h6
 rw [hbd] at h7
 exact Nat.dvd_one.1 h7
theorem add_low (f g:Rat) (s:Bool) (M k m:Nat) (hk:k=Nat.gcd f.den g.den) (hm:m=Nat.gcd M k) (hN:f.num*(g.den/k:Nat)+g.num*(f.den/k:Nat)=sgn s M):(f+g).num=sgn s (M/m)∧(f+g).den=(f.den/k)*(g.den/m):=by
 have hb0:0<f.den:=Nat.pos_of_ne_zero f.den_nz
 have hd0:0<g.den:=Nat.pos_of_ne_zero g.den_nz
 have hk0:0<k:=by rw [hk];exact Nat.gcd_pos_of_pos_left _ hb0
 have kb:k ∣ f.den:=by rw [hk];exact Nat.gcd_dvd_left _ _
 have kd:k ∣ g.den:=by rw [hk];exact Nat.gcd_dvd_right _ _
 have hcop:(f.den/k).Coprime (g.den/k):=by rw [hk];exact Nat.coprime_div_gcd_div_gcd (by rw [← hk];exact hk0)
 have hm0:0<m:=by rw [hm];exact Nat.gcd_pos_of_pos_right _ hk0
 have mk:m ∣ k:=by rw [hm];exact Nat.gcd_dvd_right _ _
 have mM:m ∣ M:=by rw [hm];exact Nat.gcd_dvd_left _ _
 have c1:M.Coprime (f.den/k):=by
  have:=cop_sum f.num g.num f.den (f.den/k) (g.den/k) f.reduced (Nat.div_dvd_of_dvd kb) hcop
  rwa [hN,sgn_abs] at this
 have c2:M.Coprime (g.den/k):=by
  have:=cop_sum g.num f.num g.den (g.den/k) (f.den/k) g.reduced (Nat.div_dvd_of_dvd kd) hcop.symm
  rw [Int.add_comm] at this
  rwa [hN,sgn_abs] at this
 have c3:(M/m).Coprime (k/m):=by rw [hm];exact Nat.coprime_div_gcd_div_gcd (by rw [← hm];exact hm0)
 obtain ⟨b',hb'⟩:=kb
 obtain ⟨d',hd'⟩:=kd
 obtain ⟨k',hk'⟩:=mk
 obtain ⟨M',hM'⟩:=mM
 have e1:f.den/k=b':=by rw [hb',Nat.mul_div_cancel_left _ hk0]
 have e2:g.den/k=d':=by rw [hd',Nat.mul_div_cancel_left _ hk0]
 have e3:k/m=k':=by rw [hk',Nat.mul_div_cancel_left _ hm0]
 have e4:M/m=M':=by rw [hM',Nat.mul_div_cancel_left _ hm0]
 have e5:g.den/m=k' * d':=by rw [hd',hk',Nat.mul_assoc,Nat.mul_div_cancel_left _ hm0]
 rw [e1,e2] at hN
 rw [e1] at c1
 rw [e2] at c2
 rw [e3,e4] at c3
 rw [e1,e4,e5]
 have c1':M'.Coprime b':=Nat.Coprime.coprime_dvd_left ⟨m,by rw [hM',Nat.mul_comm]⟩ c1
 have c2':M'.Coprime d':=Nat.Coprime.coprime_dvd_left ⟨m,by rw [hM',Nat.mul_comm]⟩ c2
 have hb1:b'≠0:=by rintro rfl;rw [Nat.mul_zero] at hb';omega
 have hd1:d'≠0:=by rintro rfl;rw [Nat.mul_zero] at hd';omega
 have hk1:k'≠0:=by rintro rfl;rw [Nat.mul_zero] at hk';omega
 refine rat_of_coprime _ _ (Nat.mul_ne_zero hb1 (Nat.mul_ne_zero hk1 hd1)) (by rw [sgn_abs];exact c1'.mul_right (c3.mul_right c2')) _ ?_
 have hx:=cross_add f g
 generalize (f+g).num=n at *
 generalize (f+g).den=e at *
 have hs:sgn s M=sgn s M' * m:=by rw [hM',Nat.mul_comm,sgn_mul]
 rw [hs] at hN
 rw [hb',hd',hk'] at hx
 have hmz:(m:Int)≠0:=by omega
 have hkz:(k':Int)≠0:=by omega
 have hx2:(n*((b' * (k' * d'):Nat):Int))*(m*m*k')=(sgn s M' * e)*(m*m*k'):=by
  have h5:(f.num*(d':Int)+g.num*b')*(m*k')*e*m=sgn s M' * m*(m*k')*e*m:=by rw [hN]
  simp only [Int.natCast_mul] at hx ⊢
  grind
 exact Int.eq_of_mul_eq_mul_right (Int.mul_ne_zero (Int.mul_ne_zero hmz hmz) hkz) hx2
theorem num_sgn (f:Rat):f.num=sgn (decide (f.num<0)) f.num.natAbs:=by
 unfold sgn
 by_cases h:f.num<0
 ·simp only [h,decide_true,if_true];omega
 ·simp only [h,decide_false,Bool.false_eq_true,if_false];omega
theorem mul_low (f g:Rat) (p q:Nat) (hp:p=Nat.gcd f.num.natAbs g.den) (hq:q=Nat.gcd g.num.natAbs f.den):(f*g).num=sgn (decide (f.num<0) != decide (g.num<0)) (f.num.natAbs/p*(g.num.natAbs/q))∧(f*g).den=(f.den/q)*(g.den/p):=by
 have hb0:0<f.den:=Nat.pos_of_ne_zero f.den_nz
 have hd0:0<g.den:=Nat.pos_of_ne_zero g.den_nz
 have hp0:0<p:=by rw [hp];exact Nat.gcd_pos_of_pos_right _ hd0
 have hq0:0<q:=by rw [hq];exact Nat.gcd_pos_of_pos_right _ hb0
 have pa:p ∣ f.num.natAbs:=by rw [hp];exact Nat.gcd_dvd_left _ _
 have pd:p ∣ g.den:=by rw [hp];exact Nat.gcd_dvd_right _ _
 have qc:q ∣ g.num.natAbs:=by rw [hq];exact Nat.gcd_dvd_left _ _
 have qb:q ∣ f.den:=by rw [hq];exact Nat.gcd_dvd_right _ _
 have c1:(f.num.natAbs/p).Coprime (g.den/p):=by rw [hp];exact Nat.coprime_div_gcd_div_gcd (by rw [← hp];exact hp0)
 have c2:(g.num.natAbs/q).Coprime (f.den/q):=by rw [hq];exact Nat.coprime_div_gcd_div_gcd (by rw [← hq];exact hq0)
 have c3:(f.num.natAbs/p).Coprime (f.den/q):=Nat.Coprime.coprime_dvd_left (Nat.div_dvd_of_dvd pa) (Nat.Coprime.coprime_dvd_right (Nat.div_dvd_of_dvd qb) f.reduced)
 have c4:(g.num.natAbs/q).Coprime (g.den/p):=Nat.Coprime.coprime_dvd_left (Nat.div_dvd_of_dvd qc) (Nat.Coprime.coprime_dvd_right (Nat.div_dvd_of_dvd pd) g.reduced)
 have hx:=cross_mul f g
 rw [num_sgn f,num_sgn g] at hx
 generalize decide (f.num<0)=s at *
 generalize decide (g.num<0)=t at *
 have nz1:f.den/q≠0:=Nat.ne_of_gt (Nat.div_pos (Nat.le_of_dvd hb0 qb) hq0)
 have nz2:g.den/p≠0:=Nat.ne_of_gt (Nat.div_pos (Nat.le_of_dvd hd0 pd) hp0)
 refine rat_of_coprime _ _ (Nat.mul_ne_zero nz1 nz2) (by rw [sgn_abs];exact (c3.mul_right c1).mul_left (c2.mul_right c4)) _ ?_
 obtain ⟨a',ha⟩:=pa
 obtain ⟨d',hd⟩:=pd
 obtain ⟨c',hc⟩:=qc
 obtain ⟨b',hb⟩:=qb
 rw [ha,hc,hb,hd] at hx
 rw [ha,hc,hb,hd,Nat.mul_div_cancel_left _ hp0,Nat.mul_div_cancel_left _ hq0,Nat.mul_div_cancel_left _ hq0,Nat.mul_div_cancel_left _ hp0]
 generalize (f*g).num=n at *
 generalize (f*g).den=e at *
 have hpz:(p:Int)≠0:=by omega
 have hqz:(q:Int)≠0:=by omega
 refine Int.eq_of_mul_eq_mul_right (a:=(p*q:Int)) (Int.mul_ne_zero hpz hqz) ?_
 cases s <;> cases t <;> simp only [sgn,Int.natCast_mul,bne_self_eq_false,Bool.false_eq_true,if_false,if_true,Bool.not_false,Bool.bne_false,Bool.bne_true] at hx ⊢ <;> grind
end Go.Proofs.YtollloafckcogaaGreatDoor

namespace Go.Proofs.YtollloafckcogaaGreatDoor
open Go.RowKit
def StepsOK (X Y xx xy yx yy:Nat) (back:Bool):Prop:=xy=0∨∃ X' Y':Nat,(if back then X' + xx*X=xy*Y∧Y' + yy*Y=yx*X else X' + xy*Y=xx*X∧Y' + yx*X=yy*Y)∧Y' < X'∧X'≤Y∧Nat.gcd X' Y'=Nat.gcd X Y
theorem StepsOK.of {a0 b0 a b xx xy yx yy:Nat} {back:Bool} (h:Lst a0 b0 a b xx xy yx yy back) (X Y K ε δ:Nat) (hX:X=a0*K+ε) (hY:Y=b0*K+δ) (hε:ε<K) (hδ:δ<K):StepsOK X Y xx xy yx yy back:=by
 obtain ⟨h1,-,h2 | h2⟩:=h
 ·exact .inl h2.2.1
 ·exact .inr (h1.apply h2 X Y K ε δ hX hY hε hδ)
theorem five_cells (wr:World) (gz:Nat) (t:TypeId) (v0 v1 v2 v3 v4 u0 u1 u2 u3 u4:Value) (cs:Array Value) (h:gz<wr.heap.size) (c0:wr.cell? ⟨gz,0,none⟩=some u0) (c1:wr.cell? ⟨gz,1,none⟩=some u1) (c2:wr.cell? ⟨gz,2,none⟩=some u2) (c3:wr.cell? ⟨gz,3,none⟩=some u3) (c4:wr.cell? ⟨gz,4,none⟩=some u4) (hf:∀ j,wr.frozen? ⟨gz,j,none⟩=false) :
  (((((((wr.setCell ⟨gz,0,none⟩ v0).setCell ⟨gz,1,none⟩ v1).setCell ⟨gz,2,none⟩ v2).setCell ⟨gz,3,none⟩ v3).setCell ⟨gz,4,none⟩ v4).alloc (.cells cs t)).cell? ⟨gz,0,none⟩=some v0 ∧
  ((((((wr.setCell ⟨gz,0,none⟩ v0).setCell ⟨gz,1,none⟩ v1).setCell ⟨gz,2,none⟩ v2).setCell ⟨gz,3,none⟩ v3).setCell ⟨gz,4,none⟩ v4).alloc (.cells cs t)).cell? ⟨gz,1,none⟩=some v1 ∧
  ((((((wr.setCell ⟨gz,0,none⟩ v0).setCell ⟨gz,1,none⟩ v1).setCell ⟨gz,2,none⟩ v2).setCell ⟨gz,3,none⟩ v3).setCell ⟨gz,4,none⟩ v4).alloc (.cells cs t)).cell? ⟨gz,2,none⟩=some v2 ∧
  ((((((wr.setCell ⟨gz,0,none⟩ v0).setCell ⟨gz,1,none⟩ v1).setCell ⟨gz,2,none⟩ v2).setCell ⟨gz,3,none⟩ v3).setCell ⟨gz,4,none⟩ v4).alloc (.cells cs t)).cell? ⟨gz,3,none⟩=some v3 ∧
  ((((((wr.setCell ⟨gz,0,none⟩ v0).setCell ⟨gz,1,none⟩ v1).setCell ⟨gz,2,none⟩ v2).setCell ⟨gz,3,none⟩ v3).setCell ⟨gz,4,none⟩ v4).alloc (.cells cs t)).cell? ⟨gz,4,none⟩=some v4) ∧
  ∀ j,((((((wr.setCell ⟨gz,0,none⟩ v0).setCell ⟨gz,1,none⟩ v1).setCell ⟨gz,2,none⟩ v2).setCell ⟨gz,3,none⟩ v3).setCell ⟨gz,4,none⟩ v4).alloc (.cells cs t)).frozen? ⟨gz,j,none⟩=false:=by
 have e0:∀ (w:World) (o:Obj) (p:Addr),p.block<w.heap.size→(w.alloc o).cell? p=w.cell? p:=fun w o p hp=>((But.refl [] w).alloc o).cell hp (by simp)
 have e1:∀ (w:World) (o:Obj) (p:Addr),p.block<w.heap.size→(w.alloc o).frozen? p=w.frozen? p:=fun w o p hp=>((But.refl [] w).alloc o).frozen hp (by simp)
 have k0:=World.cell?_setCell_same wr ⟨gz,0,none⟩ v0 c0
 have k1:=World.cell?_setCell_same (wr.setCell ⟨gz,0,none⟩ v0) ⟨gz,1,none⟩ v1 (u:=u1) (by rw [World.cell?_setCell_other _ _ _ _ (by simp)];exact c1)
 have k2:=World.cell?_setCell_same ((wr.setCell ⟨gz,0,none⟩ v0).setCell ⟨gz,1,none⟩ v1) ⟨gz,2,none⟩ v2 (u:=u2) (by rw [World.cell?_setCell_other _ _ _ _ (by simp),World.cell?_setCell_other _ _ _ _ (by simp)];exact c2)
 have k3:=World.cell?_setCell_same (((wr.setCell ⟨gz,0,none⟩ v0).setCell ⟨gz,1,none⟩ v1).setCell ⟨gz,2,none⟩ v2) ⟨gz,3,none⟩ v3 (u:=u3) (by rw [World.cell?_setCell_other _ _ _ _ (by simp),World.cell?_setCell_other _ _ _ _ (by simp),World.cell?_setCell_other _ _ _ _ (by simp)];exact c3)
 have k4:=World.cell?_setCell_same ((((wr.setCell ⟨gz,0,none⟩ v0).setCell ⟨gz,1,none⟩ v1).setCell ⟨gz,2,none⟩ v2).setCell ⟨gz,3,none⟩ v3) ⟨gz,4,none⟩ v4 (u:=u4) (by rw [World.cell?_setCell_other _ _ _ _ (by simp),World.cell?_setCell_other _ _ _ _ (by simp),World.cell?_setCell_other _ _ _ _ (by simp),World.cell?_setCell_other _ _ _ _ (by simp)];exact c4)
 refine ⟨⟨?_,?_,?_,?_,?_⟩,fun j=>?_⟩
 ·rw [e0 _ _ _ (by simpa using h),World.cell?_setCell_other _ _ _ _ (by simp),World.cell?_setCell_other _ _ _ _ (by simp),World.cell?_setCell_other _ _ _ _ (by simp),World.cell?_setCell_other _ _ _ _ (by simp)];exact k0
 ·rw [e0 _ _ _ (by simpa using h),World.cell?_setCell_other _ _ _ _ (by simp),World.cell?_setCell_other _ _ _ _ (by simp),World.cell?_setCell_other _ _ _ _ (by simp)];exact k1
 ·rw [e0 _ _ _ (by simpa using h),World.cell?_setCell_other _ _ _ _ (by simp),World.cell?_setCell_other _ _ _ _ (by simp)];exact k2
 ·rw [e0 _ _ _ (by simpa using h),World.cell?_setCell_other _ _ _ _ (by simp)];exact k3
 ·rw [e0 _ _ _ (by simpa using h)];exact k4
 ·rw [e1 _ _ _ (by simpa using h)]
  simp only [World.frozen?_setCell]
  exact hf j
end Go.Proofs.YtollloafckcogaaGreatDoor

namespace Go.Proofs.YtollloafckcogaaGreatDoor
def sgR (f:Nat→Rat):Nat→Rat
 | 0=>0
 | k+1=>sgR f k+f k
end Go.Proofs.YtollloafckcogaaGreatDoor
