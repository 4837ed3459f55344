/- Two laws beside each other, plain: what  -/
import Derived.Test.YtloojmaamaambaaGreatDoorKRKNz
namespace Go.Proofs.YtloojmaamaambaaGreatDoor
theorem sgR_sub (f g:Nat→Rat):∀ n,sgR (fun k=>f k-g k) n=sgR f n-sgR g n
 | 0=>by
  show (0:Rat)=0-0
  grind
 | n+1=>by
  show sgR _ n+(f n-g n)=sgR f n+f n-(sgR g n+g n)
  rw [sgR_sub f g n];grind
end Go.Proofs.YtloojmaamaambaaGreatDoor

namespace Go.Proofs.YtloojmaamaambaaGreatDoor
theorem sgR_le (f g:Nat→Rat):∀ n,(∀ k,k<n→f k≤g k)→sgR f n≤sgR g n
 | 0,_=>Rat.le_refl
 | n+1,h=>by
  have h1:=sgR_le f g n (fun k hk=>h k (by omega))
  have h2:=h n (by omega)
  show sgR f n+f n≤sgR g n+g n
  grind
theorem sgR_min (f:Nat→Rat) (k:Nat):∀ n,sgR f (min n k)=sgR (fun x=>if x<k then f x else 0) n
 | 0=>by
  rw [Nat.zero_min];rfl
 | n+1=>by
  have ih:=sgR_min f k n
  show _=sgR (fun x=>if x<k then f x else 0) n+(if n<k then f n else 0)
  by_cases h:n<k
  ·rw [if_pos h,← ih,Nat.min_eq_left (show n≤k by omega),Nat.min_eq_left (show n+1≤k by omega)]
   rfl
  ·rw [if_neg h,← ih,Nat.min_eq_right (show k≤n by omega),Nat.min_eq_right (show k≤n+1 by omega)]
   grind
def phi (p:Nat→Rat) (n c:Nat):Nat→Nat→Rat
 | 0,_=>1
 | t+1,s=>sgR (fun x=>p x*phi p n c t (s+c-x)) (min n (s+c+1))
theorem phi_next (p:Nat→Rat) (n c t s:Nat):phi p n c (t+1) s=sgR (fun x=>if x<s+c+1 then p x*phi p n c t (s+c-x) else 0) n:=sgR_min _ _ n
theorem phi_range (p:Nat→Rat) (n c:Nat) (hp:∀ k,0≤p k) (h1:sgR p n=1):∀ t s,0≤phi p n c t s∧phi p n c t s≤1
 | 0,_=>by
  show (0:Rat)≤1∧(1:Rat)≤1
  decide
 | t+1,s=>by
  have ih:=phi_range p n c hp h1 t
  rw [phi_next]
  refine ⟨sgR_nonneg _ n (fun k _=>?_),?_⟩
  ·split
   ·exact Rat.mul_nonneg (hp k) (ih _).1
   ·exact Rat.le_refl
  ·rw [← h1]
   refine sgR_le _ _ n (fun k _=>?_)
   have hk:=hp k
   split
   ·have h2:=(ih (s+c-k)).2
    have:=Rat.mul_nonneg hk (show 0≤1-phi p n c t (s+c-k) by grind)
    grind
   ·exact hk
theorem phi_sure (p:Nat→Rat) (n c:Nat) (h1:sgR p n=1):∀ (t s:Nat),(t:Int)*((n:Int)-1-(c:Int))≤(s:Int)→phi p n c t s=1
 | 0,_,_=>rfl
 | t+1,s,h=>by
  have e:((t+1:Nat):Int)*((n:Int)-1-(c:Int))=(t:Int)*((n:Int)-1-(c:Int))+((n:Int)-1-(c:Int)):=by
   rw [Int.natCast_add,Int.add_mul];omega
  rw [e] at h
  rw [phi_next,← h1]
  by_cases hz:(n:Int)-1≤(c:Int)
  ·refine sgR_congr _ _ n (fun k hk=>?_)
   have hk2:k<s+c+1:=by omega
   rw [if_pos hk2,phi_sure p n c h1 t (s+c-k) ?_]
   ·grind
   ·have:(t:Int)*((n:Int)-1-(c:Int))≤0:=by
     have h2:=Int.mul_nonneg (show (0:Int)≤(t:Int) by omega) (show (0:Int)≤(c:Int)-((n:Int)-1) by omega)
     have h3:(t:Int)*((c:Int)-((n:Int)-1))=- ((t:Int)*((n:Int)-1-(c:Int))):=by grind
     omega
    omega
  ·refine sgR_congr _ _ n (fun k hk=>?_)
   have h2:=Int.mul_nonneg (show (0:Int)≤(t:Int) by omega) (show (0:Int)≤(n:Int)-1-(c:Int) by omega)
   have hk2:k<s+c+1:=by omega
   rw [if_pos hk2,phi_sure p n c h1 t (s+c-k) (by omega)]
   grind
theorem phi_start (p:Nat→Rat) (n c:Nat) (hp:∀ k,0≤p k) (h1:sgR p n=1):∀ t s,phi p n c t s≤phi p n c t (s+1)
 | 0,_=>Rat.le_refl
 | t+1,s=>by
  have ih:=phi_start p n c hp h1 t
  rw [phi_next,phi_next]
  refine sgR_le _ _ n (fun k _=>?_)
  by_cases h:k<s+c+1
  ·rw [if_pos h,if_pos (by omega),show s+1+c-k=(s+c-k)+1 from by omega]
   have:=Rat.mul_nonneg (hp k) (show 0≤phi p n c t (s+c-k+1)-phi p n c t (s+c-k) by have:=ih (s+c-k);grind)
   grind
  ·rw [if_neg h]
   split
   ·exact Rat.mul_nonneg (hp k) (phi_range p n c hp h1 t _).1
   ·exact Rat.le_refl
theorem phi_years (p:Nat→Rat) (n c:Nat) (hp:∀ k,0≤p k) (h1:sgR p n=1):∀ t s,phi p n c (t+1) s≤phi p n c t s
 | 0,s=>(phi_range p n c hp h1 1 s).2
 | t+1,s=>by
  have ih:=phi_years p n c hp h1 t
  rw [phi_next p n c (t+1) s,phi_next p n c t s]
  refine sgR_le _ _ n (fun k _=>?_)
  split
  ·have:=Rat.mul_nonneg (hp k) (show 0≤phi p n c t (s+c-k)-phi p n c (t+1) (s+c-k) by have:=ih (s+c-k);grind)
   grind
  ·exact Rat.le_refl
def powR (r:Rat):Nat→Rat
 | 0=>1
 | k+1=>powR r k*r
theorem powR_pos (r:Rat) (h:0<r):∀ k,0<powR r k
 | 0=>by
  show (0:Rat)<1
  decide
 | k+1=>Rat.mul_pos (powR_pos r h k) h
theorem powR_add (r:Rat) (a:Nat):∀ b,powR r (a+b)=powR r a*powR r b
 | 0=>by
  show powR r a=powR r a*1
  grind
 | b+1=>by
  have:=powR_add r a b
  show powR r (a+b)*r=powR r a*(powR r b*r)
  grind
theorem powR_mono (r:Rat) (h:1≤r) (a:Nat):∀ d,powR r a≤powR r (a+d)
 | 0=>Rat.le_refl
 | d+1=>by
  have ih:=powR_mono r h a d
  have hp:=powR_pos r (by grind) (a+d)
  have:=Rat.mul_nonneg (show 0≤powR r (a+d) by grind) (show 0≤r-1 by grind)
  show powR r a≤powR r (a+d)*r
  grind
theorem lundberg (p:Nat→Rat) (n c:Nat) (hp:∀ k,0≤p k) (h1:sgR p n=1) (r:Rat) (hr:1≤r) (hs:sgR (fun x=>p x*powR r x) n≤powR r c):∀ t s,(1-phi p n c t s)*powR r s≤1
 | 0,s=>by
  show (1-1)*powR r s≤1
  grind
 | t+1,s=>by
  have ih:=lundberg p n c hp h1 r hr hs t
  have hc:=powR_pos r (by grind) c
  have e:(1-phi p n c (t+1) s)*powR r (s+c)≤powR r c:=by
   have e0:1-phi p n c (t+1) s=sgR (fun x=>p x-(if x<s+c+1 then p x*phi p n c t (s+c-x) else 0)) n:=by
    rw [sgR_sub,h1,phi_next]
   rw [e0,Rat.mul_comm,← sgR_lin]
   refine Rat.le_trans (sgR_le _ _ n (fun k _=>?_)) hs
   have hk:=hp k
   by_cases h:k<s+c+1
   ·rw [if_pos h]
    have h2:=ih (s+c-k)
    have h3:=powR_add r (s+c-k) k
    rw [show s+c-k+k=s+c from by omega] at h3
    rw [h3]
    have hpk:=powR_pos r (show 0<r by grind) k
    have:=Rat.mul_nonneg (Rat.mul_nonneg hk (show 0≤powR r k by grind)) (show 0≤1-(1-phi p n c t (s+c-k))*powR r (s+c-k) by grind)
    grind
   ·rw [if_neg h]
    have h3:=powR_mono r hr (s+c) (k-(s+c))
    rw [show s+c+(k-(s+c))=k from by omega] at h3
    have:=Rat.mul_nonneg hk (show 0≤powR r k-powR r (s+c) by grind)
    grind
  rw [powR_add] at e
  have e3:(1-phi p n c (t+1) s)*powR r s*powR r c≤1*powR r c:=by grind
  exact Rat.le_of_mul_le_mul_right e3 hc
def horn (f:Nat→Rat) (o u:Rat) (q:Rat × Rat) (k:Nat):Rat × Rat:=(q.1*o+f k*q.2,q.2*u)
def hornL (f:Nat→Rat) (o u:Rat) (l:List Nat):Rat × Rat:=l.foldl (horn f o u) (0,1)
theorem horn_down (f:Nat→Rat) (o u:Rat) (n:Nat):∀ d,d≤n→(hornL f o u (dnL n d)).2=powR u d∧(hornL f o u (dnL n d)).1*powR o (n-d)=sgR (fun j=>if n-d≤j then f j*powR o j*powR u (n-1-j) else 0) n
 | 0,_=>by
  refine ⟨rfl,?_⟩
  show 0*powR o (n-0)=_
  rw [sgR_congr _ (fun _=>0) n (fun k hk=>by rw [if_neg (by omega)]),sgR_zero];grind
 | d+1,h=>by
  obtain ⟨h1,h2⟩:=horn_down f o u n d (by omega)
  have es:hornL f o u (dnL n (d+1))=horn f o u (hornL f o u (dnL n d)) (n-(d+1)):=by
   unfold hornL
   rw [show dnL n (d+1)=dnL n d++[n-(d+1)] from rfl,List.foldl_append];rfl
  rw [es]
  unfold horn
  refine ⟨by rw [h1];rfl,?_⟩
  show ((hornL f o u (dnL n d)).1*o+f (n-(d+1))*(hornL f o u (dnL n d)).2)*powR o (n-(d+1))=_
  rw [h1]
  have e1:powR o (n-d)=powR o (n-(d+1))*o:=by
   rw [show n-d=(n-(d+1))+1 from by omega];rfl
  rw [e1] at h2
  have e2:sgR (fun j=>if n-(d+1)≤j then f j*powR o j*powR u (n-1-j) else 0) n=sgR (fun j=>(if n-d≤j then f j*powR o j*powR u (n-1-j) else 0)+(if j=n-(d+1) then f j*powR o j*powR u (n-1-j) else 0)) n:=sgR_congr _ _ n (fun j hj=>by
   by_cases ha:n-d≤j
   ·rw [if_pos (by omega),if_pos ha,if_neg (by omega)];grind
   ·by_cases hb:j=n-(d+1)
    ·rw [if_pos (by omega),if_neg ha,if_pos hb];grind
    ·rw [if_neg (by omega),if_neg ha,if_neg hb];grind)
  rw [e2,sgR_add,← h2,sgR_one (n-(d+1)) (fun j=>f j*powR o j*powR u (n-1-j)),if_pos (by omega),show n-1-(n-(d+1))=d from by omega]
  grind
theorem powR_quot (o u r:Rat) (h:o=r*u):∀ k,powR o k=powR r k*powR u k
 | 0=>by
  show (1:Rat)=1*1
  grind
 | k+1=>by
  have:=powR_quot o u r h k
  show powR o k*o=powR r k*r*(powR u k*u)
  rw [this,h];grind
theorem horn_all (f:Nat→Rat) (o u r:Rat) (n:Nat) (hn:0<n) (h:o=r*u):(hornL f o u (dnL n n)).1=powR u (n-1)*sgR (fun j=>f j*powR r j) n:=by
 have h2:=(horn_down f o u n n (Nat.le_refl _)).2
 rw [Nat.sub_self] at h2
 have e:(hornL f o u (dnL n n)).1=(hornL f o u (dnL n n)).1*powR o 0:=by
  show _=_*1
  grind
 rw [e,h2,← sgR_lin]
 refine sgR_congr _ _ n (fun j hj=>?_)
 rw [if_pos (Nat.zero_le _),powR_quot o u r h j]
 have e3:=powR_add u j (n-1-j)
 rw [show j+(n-1-j)=n-1 from by omega] at e3
 rw [e3];grind
end Go.Proofs.YtloojmaamaambaaGreatDoor

namespace Go.Proofs.YtloojmaamaambaaGreatDoor
def sgN (f:Nat→Nat):Nat→Nat
 | 0=>0
 | k+1=>sgN f k+f k
theorem sgN_rat (f:Nat→Nat) (g:Nat→Rat):∀ n,(∀ k,k<n→(((f k:Nat):Int):Rat)=g k)→(((sgN f n:Nat):Int):Rat)=sgR g n
 | 0,_=>rfl
 | n+1,h=>by
  have ih:=sgN_rat f g n (fun k hk=>h k (by omega))
  have h1:=h n (by omega)
  show (((sgN f n+f n:Nat):Int):Rat)=sgR g n+g n
  rw [← ih,← h1,Int.natCast_add,Rat.intCast_add]
theorem sgN_le (f g:Nat→Nat):∀ n,(∀ k,k<n→f k≤g k)→sgN f n≤sgN g n
 | 0,_=>Nat.le_refl _
 | n+1,h=>Nat.add_le_add (sgN_le f g n (fun k hk=>h k (by omega))) (h n (by omega))
theorem sgN_more (f:Nat→Nat) (k:Nat):∀ d,sgN f k≤sgN f (k+d)
 | 0=>Nat.le_refl _
 | d+1=>Nat.le_trans (sgN_more f k d) (Nat.le_add_right _ _)
theorem sgN_mul (f:Nat→Nat) (c:Nat):∀ n,sgN (fun k=>f k*c) n=sgN f n*c
 | 0=>by
  show 0=0*c
  rw [Nat.zero_mul]
 | n+1=>by
  show sgN (fun k=>f k*c) n+f n*c=(sgN f n+f n)*c
  rw [sgN_mul f c n,Nat.add_mul]
def lsN (a:Nat→Nat) (n c:Nat):Nat→Nat→Nat
 | 0,_=>1
 | t+1,s=>sgN (fun x=>a x*lsN a n c t (s+c-x)) (min n (s+c+1))
theorem lsN_part (a:Nat→Nat) (n c U t s:Nat) (hU:sgN a n=U) (h:∀ s,lsN a n c t s≤U^t) (k:Nat) (hk:k≤n):sgN (fun x=>a x*lsN a n c t (s+c-x)) k≤U^(t+1):=by
 have h1:sgN (fun x=>a x*lsN a n c t (s+c-x)) k≤sgN (fun x=>a x*U^t) k:=sgN_le _ _ k (fun x _=>Nat.mul_le_mul_left _ (h _))
 have h2:=sgN_more (fun x=>a x*U^t) k (n-k)
 rw [show k+(n-k)=n from by omega,sgN_mul a (U^t) n,hU] at h2
 rw [Nat.pow_succ,Nat.mul_comm]
 exact Nat.le_trans h1 h2
theorem lsN_le (a:Nat→Nat) (n c U:Nat) (hU:sgN a n=U):∀ t s,lsN a n c t s≤U^t
 | 0,_=>by
  rw [Nat.pow_zero]
  exact Nat.le_refl _
 | t+1,s=>lsN_part a n c U t s hU (fun s=>lsN_le a n c U hU t s) (min n (s+c+1)) (Nat.min_le_left _ _)
theorem powR_nat (U:Nat):∀ t,powR (((U:Nat):Int):Rat) t=(((U^t:Nat):Int):Rat)
 | 0=>by rw [Nat.pow_zero];rfl
 | t+1=>by
  show powR (((U:Nat):Int):Rat) t*(((U:Nat):Int):Rat)=_
  rw [powR_nat U t,Nat.pow_succ,Int.natCast_mul,Rat.intCast_mul]
theorem lsN_phi (p:Nat→Rat) (a:Nat→Nat) (n c U:Nat) (h:∀ x,(((a x:Nat):Int):Rat)=p x*(((U:Nat):Int):Rat)):∀ t s,(((lsN a n c t s:Nat):Int):Rat)=powR (((U:Nat):Int):Rat) t*phi p n c t s
 | 0,_=>by
  show (1:Rat)=1*1
  grind
 | t+1,s=>by
  have ih:=lsN_phi p a n c U h t
  show (((sgN (fun x=>a x*lsN a n c t (s+c-x)) (min n (s+c+1)):Nat):Int):Rat)=powR (((U:Nat):Int):Rat) t*(((U:Nat):Int):Rat)*sgR (fun x=>p x*phi p n c t (s+c-x)) (min n (s+c+1))
  rw [← sgR_lin]
  refine sgN_rat _ _ _ (fun x _=>?_)
  rw [Int.natCast_mul,Rat.intCast_mul,h x,ih]
  grind
theorem nat_rat {a b:Nat} (h:(((a:Nat):Int):Rat)=(((b:Nat):Int):Rat)):a=b:=by
 have:=Rat.intCast_inj.1 h
 omega
theorem lsN_sure (p:Nat→Rat) (a:Nat→Nat) (n c U:Nat) (h:∀ x,(((a x:Nat):Int):Rat)=p x*(((U:Nat):Int):Rat)) (h1:sgR p n=1) (t s:Nat) (hs:(t:Int)*((n:Int)-1-(c:Int))≤(s:Int)):lsN a n c t s=U^t:=by
 refine nat_rat ?_
 rw [lsN_phi p a n c U h t s,phi_sure p n c h1 t s hs,powR_nat]
 grind
theorem sgN_law (p:Nat→Rat) (a:Nat→Nat) (n U:Nat) (h:∀ x,(((a x:Nat):Int):Rat)=p x*(((U:Nat):Int):Rat)) (h1:sgR p n=1):sgN a n=U:=by
 refine nat_rat ?_
 rw [sgN_rat a (fun x=>(((U:Nat):Int):Rat)*p x) n (fun k _=>by rw [h k];grind),sgR_lin,h1]
 grind
theorem lasts_phi (p:Nat→Rat) (a:Nat→Nat) (n c U:Nat) (hU:0<U) (h:∀ x,(((a x:Nat):Int):Rat)=p x*(((U:Nat):Int):Rat)) (t s:Nat):(((lsN a n c t s:Nat):Int):Rat)/powR (((U:Nat):Int):Rat) t=phi p n c t s:=by
 have hp:=powR_pos (((U:Nat):Int):Rat) (by
  have:(0:Int)<(U:Int):=by omega
  exact Rat.intCast_pos.2 this) t
 rw [lsN_phi p a n c U h t s,Rat.mul_comm]
 exact Rat.mul_div_cancel (by grind)
theorem mean_horn (p F:Nat→Rat) (n c z:Nat) (U r:Rat) (_hU:0<U) (hz:n≤z) (hc:c<z) (hp:∀ k,n≤k→p k=0) (hF:∀ j,j<z→F j=p j*U-(if j=c then U else 0)) :
  sgR (fun j=>F j*powR r j) z=U*(sgR (fun j=>p j*powR r j) n-powR r c):=by
 rw [sgR_congr _ (fun j=>U*(p j*powR r j)-(if j=c then U*powR r j else 0)) z (fun j hj=>by
  rw [hF j hj]
  by_cases e:j=c
  ·rw [if_pos e,if_pos e];grind
  ·rw [if_neg e,if_neg e];grind),sgR_sub,sgR_lin,sgR_one c (fun j=>U*powR r j),if_pos hc]
 have h2:=sgR_more (fun j=>p j*powR r j) n (z-n) (fun k hk=>by rw [hp k hk];grind)
 rw [show n+(z-n)=z from by omega] at h2
 rw [h2]
 grind
theorem horn_tells (p F:Nat→Rat) (n c z:Nat) (U r o u:Rat) (hU:0<U) (hu:0<u) (ho:o=r*u) (hz:n≤z) (hc:c<z) (hp:∀ k,n≤k→p k=0) (hF:∀ j,j<z→F j=p j*U-(if j=c then U else 0)) :
  (hornL F o u (dnL z z)).1≤0↔sgR (fun j=>p j*powR r j) n≤powR r c:=by
 rw [horn_all F o u r z (by omega) ho,mean_horn p F n c z U r hU hz hc hp hF]
 have hq:=powR_pos u hu (z-1)
 generalize powR u (z-1)=q at *
 generalize sgR (fun j=>p j*powR r j) n=A at *
 generalize powR r c=C at *
 have hqU:0<q*U:=Rat.mul_pos hq hU
 constructor
 ·intro h
  refine Rat.not_lt.1 (fun hlt=>?_)
  have:=Rat.mul_pos hqU (show 0<A-C by grind)
  grind
 ·intro h
  have:=Rat.mul_nonneg (show 0≤q*U by grind) (show 0≤C-A by grind)
  grind
end Go.Proofs.YtloojmaamaambaaGreatDoor
