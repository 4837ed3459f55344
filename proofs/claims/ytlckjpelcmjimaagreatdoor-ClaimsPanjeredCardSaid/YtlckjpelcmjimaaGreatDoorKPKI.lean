/- Powers of rows of factors, plain: Panjer -/
import Derived.Test.YtlckjpelcmjimaaGreatDoorKPK4
import Derived.Test.YtlckjpelcmjimaaGreatDoorKPKM
namespace Go.Proofs.YtlckjpelcmjimaaGreatDoor
set_option maxHeartbeats 16000000
set_option maxRecDepth 100000
def cv (f g:Nat→Rat):Nat→Rat
 | 0=>f 0*g 0
 | n+1=>f 0*g (n+1)+cv (fun k=>f (k+1)) g n
def un:Nat→Rat:=fun n=>if n=0 then 1 else 0
def pw (b:Nat→Rat):Nat→Nat→Rat
 | 0=>un
 | m+1=>cv b (pw b m)
def us (f:Nat→Rat):Nat→Rat
 | 0=>0
 | k+1=>us f k+f k
def dr (f:Nat→Rat):Nat→Rat:=fun k=>((k:Int):Rat)*f k
theorem us_congr {f g:Nat→Rat}:∀ n,(∀ k,k<n→f k=g k)→us f n=us g n
 | 0,_=>rfl
 | n+1,h=>by
  show us f n+f n=us g n+g n
  rw [us_congr n (fun k hk=>h k (by omega)),h n (by omega)]
theorem us_add (f g:Nat→Rat):∀ n,us (fun k=>f k+g k) n=us f n+us g n
 | 0=>by show (0:Rat)=0+0;grind
 | n+1=>by
  show us _ n+(f n+g n)=us f n+f n+(us g n+g n)
  rw [us_add f g n];grind
theorem us_mul (c:Rat) (f:Nat→Rat):∀ n,us (fun k=>c*f k) n=c*us f n
 | 0=>by show (0:Rat)=c*0;grind
 | n+1=>by
  show us _ n+c*f n=c*(us f n+f n)
  rw [us_mul c f n];grind
theorem us_zero:∀ n,us (fun _=>0) n=0
 | 0=>rfl
 | n+1=>by
  show us (fun _=>0) n+0=0
  rw [us_zero n];grind
theorem us_first (f:Nat→Rat):∀ n,us f (n+1)=f 0+us (fun k=>f (k+1)) n
 | 0=>by show (0:Rat)+f 0=f 0+0;grind
 | n+1=>by
  show us f (n+1)+f (n+1)=f 0+(us (fun k=>f (k+1)) n+f (n+1))
  rw [us_first f n];grind
theorem us_more (f:Nat→Rat) (n:Nat):∀ t,(∀ k,n≤k→f k=0)→us f (n+t)=us f n
 | 0,_=>rfl
 | t+1,h=>by
  show us f (n+t)+f (n+t)=us f n
  rw [us_more f n t h,h (n+t) (by omega)];grind
theorem cv_us (f g:Nat→Rat):∀ n,cv f g n=us (fun k=>f k*g (n-k)) (n+1):=by
 intro n
 induction n generalizing f with
 | zero=>show f 0*g 0=0+f 0*g (0-0);grind
 | succ n ih =>
  rw [us_first]
  show f 0*g (n+1)+cv (fun k=>f (k+1)) g n=f 0*g (n+1-0)+_
  rw [ih]
  congr 1
  refine us_congr _ (fun k _=>?_)
  rw [show n+1-(k+1)=n-k from by omega]
theorem cv_congr {f f' g g':Nat→Rat} (n:Nat) (h1:∀ k,k≤n→f k=f' k) (h2:∀ k,k≤n→g k=g' k):cv f g n=cv f' g' n:=by
 rw [cv_us,cv_us]
 refine us_congr _ (fun k hk=>?_)
 rw [h1 k (by omega),h2 (n-k) (by omega)]
theorem cv_addl (f f' g:Nat→Rat):cv (fun k=>f k+f' k) g=fun n=>cv f g n+cv f' g n:=by
 funext n
 rw [cv_us,cv_us,cv_us,← us_add]
 refine us_congr _ (fun k _=>?_)
 grind
theorem cv_addr (f g g':Nat→Rat):cv f (fun k=>g k+g' k)=fun n=>cv f g n+cv f g' n:=by
 funext n
 rw [cv_us,cv_us,cv_us,← us_add]
 refine us_congr _ (fun k _=>?_)
 grind
theorem cv_mull (c:Rat) (f g:Nat→Rat):cv (fun k=>c*f k) g=fun n=>c*cv f g n:=by
 funext n
 rw [cv_us,cv_us,← us_mul]
 refine us_congr _ (fun k _=>?_)
 grind
theorem cv_mulr (c:Rat) (f g:Nat→Rat):cv f (fun k=>c*g k)=fun n=>c*cv f g n:=by
 funext n
 rw [cv_us,cv_us,← us_mul]
 refine us_congr _ (fun k _=>?_)
 grind
theorem cv_zerol (g:Nat→Rat):cv (fun _=>0) g=fun _=>0:=by
 funext n
 rw [cv_us]
 refine (us_congr _ (fun k _=>?_)).trans (us_zero (n+1))
 grind
theorem cv_zeror (f:Nat→Rat):cv f (fun _=>0)=fun _=>0:=by
 funext n
 rw [cv_us]
 refine (us_congr _ (fun k _=>?_)).trans (us_zero (n+1))
 grind
theorem cv_last (f g:Nat→Rat):∀ n,cv f g (n+1)=cv f (fun k=>g (k+1)) n+f (n+1)*g 0:=by
 intro n
 rw [cv_us,cv_us]
 show us (fun k=>f k*g (n+1-k)) (n+1)+f (n+1)*g (n+1-(n+1))=_
 rw [Nat.sub_self]
 congr 1
 refine us_congr _ (fun k hk=>?_)
 rw [show n+1-k=n-k+1 from by omega]
theorem cv_comm (f g:Nat→Rat):cv f g=cv g f:=by
 funext n
 induction n generalizing f g with
 | zero=>show f 0*g 0=g 0*f 0;grind
 | succ n ih =>
  rw [cv_last]
  show _=g 0*f (n+1)+cv (fun k=>g (k+1)) f n
  rw [ih f];grind
theorem cv_assoc (f g e:Nat→Rat):cv (cv f g) e=cv f (cv g e):=by
 funext n
 induction n generalizing f with
 | zero=>show f 0*g 0*e 0=f 0*(g 0*e 0);grind
 | succ n ih =>
  show f 0*g 0*e (n+1)+cv (fun k=>f 0*g (k+1)+cv (fun j=>f (j+1)) g k) e n=f 0*(g 0*e (n+1)+cv (fun k=>g (k+1)) e n)+cv (fun k=>f (k+1)) (cv g e) n
  rw [cv_addl (fun k=>f 0*g (k+1)) (cv (fun j=>f (j+1)) g),cv_mull (f 0) (fun k=>g (k+1))]
  show _+(f 0*cv (fun k=>g (k+1)) e n+cv (cv (fun j=>f (j+1)) g) e n)=_
  rw [ih];grind
theorem cv_unl (g:Nat→Rat):cv un g=g:=by
 funext n
 cases n with
 | zero=>show (1:Rat)*g 0=g 0;grind
 | succ n =>
  show (1:Rat)*g (n+1)+cv (fun k=>un (k+1)) g n=g (n+1)
  rw [show (fun k=>un (k+1))=(fun _=>(0:Rat)) from by funext k;simp [un],cv_zerol];grind
theorem cv_dr (f g:Nat→Rat) (n:Nat):((n:Int):Rat)*cv f g n=cv (dr f) g n+cv f (dr g) n:=by
 rw [cv_us,cv_us,cv_us,← us_add,← us_mul]
 refine us_congr _ (fun k hk=>?_)
 show ((n:Int):Rat)*(f k*g (n-k))=((k:Int):Rat)*f k*g (n-k)+f k*((((n-k:Nat):Int):Rat)*g (n-k))
 have e:((n:Int):Rat)=((k:Int):Rat)+(((n-k:Nat):Int):Rat):=by
  rw [← Rat.intCast_add];congr 1;omega
 rw [e];grind
theorem dr_cv (f g:Nat→Rat):dr (cv f g)=fun n=>cv (dr f) g n+cv f (dr g) n:=by
 funext n;exact cv_dr f g n
theorem dr_un:dr un=fun _=>0:=by
 funext n
 show ((n:Int):Rat)*un n=0
 unfold un
 split
 ·rename_i e;subst e;show (0:Rat)*1=0;grind
 ·grind
theorem pw_dr (b:Nat→Rat):∀ m,cv b (dr (pw b m))=fun n=>((m:Int):Rat)*cv (dr b) (pw b m) n
 | 0=>by
  rw [show pw b 0=un from rfl,dr_un,cv_zeror]
  funext n
  show (0:Rat)=((0:Int):Rat)*_
  rw [show ((0:Int):Rat)=0 from rfl];grind
 | m+1=>by
  have ih:=pw_dr b m
  rw [show pw b (m+1)=cv b (pw b m) from rfl,dr_cv,cv_addr,ih,cv_mulr]
  funext n
  have e:cv b (cv (dr b) (pw b m))=cv (dr b) (cv b (pw b m)):=by
   rw [← cv_assoc,cv_comm b (dr b),cv_assoc]
  rw [e,show ((((m+1:Nat):Int)):Rat)=((m:Int):Rat)+1 from by rw [show (((m+1:Nat)):Int)=(m:Int)+1 from by omega,Rat.intCast_add];rfl]
  grind
theorem panjer (b:Nat→Rat) (m n:Nat):cv (fun k=>b k*((((k:Int)*((m:Int)+1)-(n:Int)):Int):Rat)) (pw b m) n=0:=by
 have h1:=cv_dr b (pw b m) n
 have h2:=congrFun (pw_dr b m) n
 have e:(fun k=>b k*((((k:Int)*((m:Int)+1)-(n:Int)):Int):Rat))=fun k=>(((m:Int):Rat)+1)*dr b k+(-((n:Int):Rat))*b k:=by
  funext k
  show _=(((m:Int):Rat)+1)*(((k:Int):Rat)*b k)+_
  rw [Rat.intCast_sub,Rat.intCast_mul,Rat.intCast_add,show ((1:Int):Rat)=1 from rfl]
  grind
 rw [e,cv_addl (fun k=>(((m:Int):Rat)+1)*dr b k) (fun k=>(-((n:Int):Rat))*b k),cv_mull,cv_mull]
 show (((m:Int):Rat)+1)*cv (dr b) (pw b m) n + -((n:Int):Rat)*cv b (pw b m) n=0
 rw [h2] at h1
 grind
def dS (f:Nat→Rat) (K:Nat):Nat→Rat
 | 0=>0
 | t+1=>dS f K t*((1:Int):Rat)+f (K-t)
theorem dS_us (f:Nat→Rat) (K:Nat):∀ t,t≤K→dS f K t+us (fun k=>f (k+1)) (K-t)=us (fun k=>f (k+1)) K
 | 0,_=>by show (0:Rat)+_=_;rw [Nat.sub_zero];grind
 | t+1,h=>by
  have ih:=dS_us f K t (by omega)
  show dS f K t*((1:Int):Rat)+f (K-t)+_=_
  obtain ⟨j,hj⟩:∃ j,K-t=j+1:=⟨K-t-1,by omega⟩
  rw [show K-(t+1)=j from by omega,hj,show ((1:Int):Rat)=1 from rfl]
  rw [hj] at ih
  have e:us (fun k=>f (k+1)) (j+1)=us (fun k=>f (k+1)) j+f (j+1):=rfl
  rw [e] at ih
  grind
theorem dS_all (f:Nat→Rat) (K:Nat):dS f K K=us (fun k=>f (k+1)) K:=by
 have:=dS_us f K K (Nat.le_refl _)
 rw [Nat.sub_self] at this
 have e:us (fun k=>f (k+1)) 0=0:=rfl
 rw [e] at this
 grind
theorem panjer_step (b:Nat→Rat) (m n K L:Nat) (hn:0<n) (hL:∀ k,L<k→b k=0) (hK:K=min n L) (h0:b 0≠0) :
  dS (fun k=>b k*((((k:Int)*((m:Int)+1)-(n:Int)):Int):Rat)*pw b m (n-k)) K K/(b 0*((n:Int):Rat))=pw b m n:=by
 have hp:=panjer b m n
 rw [cv_us,us_first] at hp
 have e:us (fun k=>b (k+1)*(((((k+1:Nat):Int)*((m:Int)+1)-(n:Int)):Int):Rat)*pw b m (n-(k+1))) n=us (fun k=>b (k+1)*(((((k+1:Nat):Int)*((m:Int)+1)-(n:Int)):Int):Rat)*pw b m (n-(k+1))) K:=by
  rcases Nat.le_total n L with h | h
  ·rw [hK,Nat.min_eq_left h]
  ·have hKL:K=L:=by rw [hK,Nat.min_eq_right h]
   have:=us_more (fun k=>b (k+1)*(((((k+1:Nat):Int)*((m:Int)+1)-(n:Int)):Int):Rat)*pw b m (n-(k+1))) L (n-L) (fun k hk=>by rw [hL (k+1) (by omega)];grind)
   rw [show L+(n-L)=n from by omega] at this
   rw [this,hKL]
 have hd:=dS_all (fun k=>b k*((((k:Int)*((m:Int)+1)-(n:Int)):Int):Rat)*pw b m (n-k)) K
 rw [hd]
 rw [e] at hp
 have hn0:((n:Int):Rat)≠0:=by
  intro h
  have:=Rat.intCast_eq_zero_iff.1 h
  omega
 simp only [Nat.sub_zero] at hp
 rw [show ((((0:Nat):Int)*((m:Int)+1)-(n:Int):Int):Rat)=-((n:Int):Rat) from by rw [show (((0:Nat):Int)*((m:Int)+1)-(n:Int))=-(n:Int) from by simp,Rat.intCast_neg]] at hp
 have hx:us (fun k=>b (k+1)*(((((k+1:Nat):Int)*((m:Int)+1)-(n:Int)):Int):Rat)*pw b m (n-(k+1))) K=b 0*((n:Int):Rat)*pw b m n:=by grind
 have hne:b 0*((n:Int):Rat)≠0:=by
  intro h
  rcases Rat.mul_eq_zero.1 h with h | h
  ·exact h0 h
  ·exact hn0 h
 rw [hx,Rat.div_def,Rat.mul_comm (b 0*_),Rat.mul_assoc,Rat.mul_inv_cancel _ hne,Rat.mul_one]
theorem pw_mul (u:Rat) (b:Nat→Rat):∀ m,∃ q:Rat,(q=u^m)∧pw (fun k=>u*b k) m=fun n=>q*pw b m n
 | 0=>⟨1,by simp [Rat.pow_zero],by
  funext n
  show un n=1*un n
  grind⟩
 | m+1=>by
  obtain ⟨q,hq,ih⟩:=pw_mul u b m
  refine ⟨u^(m+1),rfl,?_⟩
  show cv (fun k=>u*b k) (pw (fun k=>u*b k) m)=_
  rw [ih,cv_mull,cv_mulr]
  funext n
  show u*(q*cv b (pw b m) n)=u^(m+1)*cv b (pw b m) n
  rw [hq,Rat.pow_succ];grind
theorem cv_far (f g:Nat→Rat) (p q n:Nat) (hf:∀ k,p<k→f k=0) (hg:∀ k,q<k→g k=0) (hn:p+q<n):cv f g n=0:=by
 rw [cv_us]
 refine (us_congr _ (fun k _=>?_)).trans (us_zero (n+1))
 rcases Nat.lt_or_ge p k with h | h
 ·rw [hf k h];grind
 ·rw [hg (n-k) (by omega)];grind
def bn:Nat→Nat→Nat
 | _,0=>1
 | 0,_+1=>0
 | n+1,k+1=>bn n k+bn n (k+1)
theorem bn_far:∀ n k,n<k→bn n k=0
 | 0,k+1,_=>rfl
 | n+1,k+1,h=>by
  show bn n k+bn n (k+1)=0
  rw [bn_far n k (by omega),bn_far n (k+1) (by omega)]
theorem bn_next:∀ n k,(k+1)*bn n (k+1)+k*bn n k=n*bn n k
 | 0,0=>by simp [bn]
 | 0,k+1=>by simp [bn]
 | n+1,0=>by
  have:=bn_next n 0
  simp [bn] at this ⊢
  omega
 | n+1,k+1=>by
  have h1:=bn_next n k
  have h2:=bn_next n (k+1)
  show (k+1+1)*(bn n (k+1)+bn n (k+2))+(k+1)*(bn n k+bn n (k+1))=(n+1)*(bn n k+bn n (k+1))
  generalize bn n k=a at *
  generalize bn n (k+1)=b at *
  generalize bn n (k+1+1)=c at *
  grind
def trN (no r:Rat) (N:Nat):Nat→Rat
 | 0=>no
 | n+1=>trN no r N n*(r*(((((N:Int)-(n:Int)):Int):Rat)/((((n:Int)+1):Int):Rat)))
theorem trN_is (no r:Rat) (N:Nat):∀ n,trN no r N n=no*(((bn N n:Nat):Int):Rat)*r^n
 | 0=>by
  have:bn N 0=1:=by cases N <;> rfl
  rw [this]
  show no=no*((1:Int):Rat)*r^0
  rw [Rat.pow_zero,show ((1:Int):Rat)=1 from rfl];grind
 | n+1=>by
  show trN no r N n*_=_
  rw [trN_is no r N n,Rat.pow_succ]
  have h:=bn_next N n
  have hz:((n:Int)+1)*((bn N (n+1):Nat):Int)=((N:Int)-(n:Int))*((bn N n:Nat):Int):=by
   have h':(((n+1)*bn N (n+1)+n*bn N n:Nat):Int)=((N*bn N n:Nat):Int):=by rw [h]
   rw [Int.natCast_add,Int.natCast_mul,Int.natCast_mul,Int.natCast_mul,show ((n+1:Nat):Int)=(n:Int)+1 from by omega] at h'
   rw [Int.sub_mul];omega
  have hq:((((n:Int)+1):Int):Rat)*(((bn N (n+1):Nat):Int):Rat)=((((N:Int)-(n:Int)):Int):Rat)*(((bn N n:Nat):Int):Rat):=by
   rw [← Rat.intCast_mul,← Rat.intCast_mul,hz]
  have hne:((((n:Int)+1):Int):Rat)≠0:=by
   intro h0
   have:=Rat.intCast_eq_zero_iff.1 h0
   omega
  generalize ((((n:Int)+1):Int):Rat)=a at *
  generalize ((((N:Int)-(n:Int)):Int):Rat)=c at *
  generalize (((bn N (n+1):Nat):Int):Rat)=x at *
  generalize (((bn N n:Nat):Int):Rat)=y at *
  grind
theorem binom (r:Rat) (s:Nat→Rat) (i:Nat):∀ N,us (fun n=>(((bn N n:Nat):Int):Rat)*r^n*pw s n i) (N+1)=pw (fun k=>un k+r*s k) N i:=by
 intro N
 induction N generalizing i with
 | zero =>
  show (0:Rat)+((1:Int):Rat)*r^0*un i=un i
  rw [Rat.pow_zero,show ((1:Int):Rat)=1 from rfl];grind
 | succ N ih =>
  have e0:pw (fun k=>un k+r*s k) (N+1) i=pw (fun k=>un k+r*s k) N i+r*cv s (pw (fun k=>un k+r*s k) N) i:=by
   show cv (fun k=>un k+r*s k) (pw (fun k=>un k+r*s k) N) i=_
   rw [cv_addl un (fun k=>r*s k),cv_unl,cv_mull]
  have e1:pw (fun k=>un k+r*s k) N=fun i=>us (fun n=>(((bn N n:Nat):Int):Rat)*r^n*pw s n i) (N+1):=by
   funext i;exact (ih i).symm
  have e2:∀ M,cv s (fun i=>us (fun n=>(((bn N n:Nat):Int):Rat)*r^n*pw s n i) M) i=us (fun n=>(((bn N n:Nat):Int):Rat)*r^n*pw s (n+1) i) M:=by
   intro M
   induction M with
   | zero=>exact congrFun (cv_zeror s) i
   | succ M ihM =>
    show cv s (fun i=>us _ M+(((bn N M:Nat):Int):Rat)*r^M*pw s M i) i=us _ M+_
    rw [cv_addr s (fun i=>us (fun n=>(((bn N n:Nat):Int):Rat)*r^n*pw s n i) M) (fun i=>(((bn N M:Nat):Int):Rat)*r^M*pw s M i),cv_mulr]
    show _+_*cv s (pw s M) i=_
    rw [ihM];rfl
  rw [e0,e1,e2 (N+1)]
  rw [us_first (fun n=>(((bn (N+1) n:Nat):Int):Rat)*r^n*pw s n i) (N+1)]
  have e3:us (fun n=>(((bn (N+1) (n+1):Nat):Int):Rat)*r^(n+1)*pw s (n+1) i) (N+1)=us (fun n=>(((bn N (n+1):Nat):Int):Rat)*r^(n+1)*pw s (n+1) i) (N+1)+r*us (fun n=>(((bn N n:Nat):Int):Rat)*r^n*pw s (n+1) i) (N+1):=by
   rw [← us_mul,← us_add]
   refine us_congr _ (fun n _=>?_)
   show ((((bn N n+bn N (n+1):Nat)):Int):Rat)*r^(n+1)*_=_
   rw [Int.natCast_add,Rat.intCast_add,Rat.pow_succ];grind
  rw [e3]
  have e4:us (fun n=>(((bn N n:Nat):Int):Rat)*r^n*pw s n i) (N+1)=(((bn N 0:Nat):Int):Rat)*r^0*pw s 0 i+us (fun n=>(((bn N (n+1):Nat):Int):Rat)*r^(n+1)*pw s (n+1) i) (N+1):=by
   rw [us_first (fun n=>(((bn N n:Nat):Int):Rat)*r^n*pw s n i) N]
   show _=_+(us (fun n=>(((bn N (n+1):Nat):Int):Rat)*r^(n+1)*pw s (n+1) i) N+(((bn N (N+1):Nat):Int):Rat)*r^(N+1)*pw s (N+1) i)
   rw [bn_far N (N+1) (by omega),show (((0:Nat):Int):Rat)=0 from rfl];grind
  show _=us (fun n=>(((bn N n:Nat):Int):Rat)*r^n*pw s n i) (N+1)+_
  rw [e4]
  have e5:bn (N+1) 0=bn N 0:=by cases N <;> rfl
  rw [e5];grind
open Go.RowKit
def az (ns ss:List Rat) (u:Rat):Nat→List Rat
 | 0=>[ns[ns.length-1]?.getD 0]
 | t+1=>(List.range ((az ns ss u t).length+ss.length-1)).map (setF (convI (az ns ss u t) ss (az ns ss u t).length) 0 (convI (az ns ss u t) ss (az ns ss u t).length 0+ns[ns.length-1-(t+1)]?.getD 0*rpow u (t+1)))
theorem compL_pos (ns ss:List Rat) (u:Rat) (h:1≤ss.length):∀ t,1≤(az ns ss u t).length
 | 0=>by simp [az]
 | t+1=>by
  have:=compL_pos ns ss u h t
  simp only [az,List.length_map,List.length_range]
  omega
theorem an.besideW {w w':World} {v:Value} {fs:List Rat} {g:Nat} {s:Bool} (h:an w v fs) (hb:But [g] w w') (c1:w.cell? ⟨g,1,none⟩=some (.bool s)) (hn:∀ b off n c,v=.slice (some ⟨b,off,none⟩) n c→b≠g):an w' v fs:=by
 obtain ⟨a,cap,e,hc,h⟩:=h
 refine ⟨a,cap,e,hc,fun i f hf=>?_⟩
 obtain ⟨b,off,e1,s',x,y,p,h1,h2⟩:=h i f hf
 have hbg:b≠g:=hn b off _ _ (by rw [e,e1])
 exact ⟨b,off,e1,s',x,y,p,h1.but hb (by simpa using hbg),h2.overW c1 hb⟩
theorem compounded_any (nb no nn nc sb so sn sc:Nat) (s1 s2:Bool) (x1 y1 x2 y2:Int) (p1 p2:Option Addr) (ns ss:List Rat) (u1 u2:Rat) (w:World) (hns:an w (.slice (some ⟨nb,no,none⟩) nn nc) ns) (hss:an w (.slice (some ⟨sb,so,none⟩) sn sc) ss) (hnn:nn=ns.length) (hsn:sn=ss.length) (hnc:nn≤nc) (hncb:nc<1000000)
  (hu1:am w (.agg #[.bool s1,.int .u64 x1,.int .u64 y1,.pointer p1]) u1) (hu2:am w (.agg #[.bool s2,.int .u64 x2,.int .u64 y2,.pointer p2]) u2) (l1:Len u1 1000) (l2:Len u2 1000) (hn1:1≤nn) (hn2:nn≤300) (hs1:1≤sn) (hs2:sn≤300)
  (lns:∀ f ∈ ns,Len f 500) (lss:∀ f ∈ ss,Len f 500) (hl:∀ t,t<nn→(az ns ss u2 t).length≤300∧(∀ f ∈ az ns ss u2 t,Len f 500)∧Len (rpow u2 t) 1000) :
  Calls Tryz.prog 53 #[.agg #[.slice (some ⟨nb,no,none⟩) nn nc,.bool s1,.int .u64 x1,.int .u64 y1,.pointer p1],.agg #[.slice (some ⟨sb,so,none⟩) sn sc,.bool s2,.int .u64 x2,.int .u64 y2,.pointer p2]] w fun e w'=>∃ v s x y p,e=.returned (.agg #[v,.bool s,.int .u64 x,.int .u64 y,.pointer p])∧an w' v (az ns ss u2 (nn-1))∧am w' (.agg #[.bool s,.int .u64 x,.int .u64 y,.pointer p]) (rpow u2 (nn-1)*u1)∧But [] w w':=by
 obtain ⟨ws,wx,FW,CW⟩:=whole_is 1 (by omega) (by omega)
 have CWH:=af CW
 have FWH:=af FW
 have HNS:=af hns
 have HSS:=af hss
 have HU1:=af hu1
 have HU2:=af hu2
 have HNN:=af hnn
 have HSN:=af hsn
 have HL:=af hl
 clear CW FW hns hss hu1 hu2 hnn hsn hl
 obtain ⟨m,hm⟩:∃ m,m=nn-1:=⟨_,rfl⟩
 have hm1:(nn:Int)-1=(m:Int):=by omega
 have hmn:m<nn:=by omega
 rw [← hm]
 have HMN:Hid (m+1=nn):=by show _=_;omega
 clear hm
 obtain ⟨W,hW⟩:∃ W,W=((w.alloc (.cells #[.slice (some ⟨nb,no,none⟩) nn nc,.bool s1,.int .u64 x1,.int .u64 y1,.pointer p1] 103)).alloc (.cells #[.slice (some ⟨sb,so,none⟩) sn sc,.bool s2,.int .u64 x2,.int .u64 y2,.pointer p2] 103)).alloc (.cells #[.slice none 0 0,.bool false,.int .u64 0,.int .u64 0,.pointer none] 103):=⟨_,rfl⟩
 have xx:WBox W w.heap.size (.slice (some ⟨nb,no,none⟩) nn nc) s1 x1 y1 p1∧WBox W (w.heap.size+1) (.slice (some ⟨sb,so,none⟩) sn sc) s2 x2 y2 p2∧WBox W (w.heap.size+2) (.slice none 0 0) false 0 0 none∧But [] w W:=by
  rw [hW]
  have z1:(w.alloc (.cells #[.slice (some ⟨nb,no,none⟩) nn nc,.bool s1,.int .u64 x1,.int .u64 y1,.pointer p1] 103)).heap.size=w.heap.size+1:=by simp
  have z2:((w.alloc (.cells #[.slice (some ⟨nb,no,none⟩) nn nc,.bool s1,.int .u64 x1,.int .u64 y1,.pointer p1] 103)).alloc (.cells #[.slice (some ⟨sb,so,none⟩) sn sc,.bool s2,.int .u64 x2,.int .u64 y2,.pointer p2] 103)).heap.size=w.heap.size+2:=by simp
  refine ⟨((WBox.new w _ _ _ _ _ _).but ((But.refl [] _).alloc _) (by simp)).but ((But.refl [] _).alloc _) (by simp),?_,?_,(((But.refl _ _).alloc _).alloc _).alloc _⟩
  ·rw [← z1];exact (WBox.new _ _ _ _ _ _ _).but ((But.refl [] _).alloc _) (by simp)
  ·rw [← z2];exact WBox.new _ _ _ _ _ _ _
 obtain ⟨xa,xb,xc,bW⟩:=xx
 have XA:=af xa
 have XB:=af xb
 have XC:=af xc
 have BW:=af bW
 obtain ⟨ra0,ra1,ra2,ra3,ra4,-⟩:=xa
 clear xb xc bW
 have a1:(0:Int)≤(m:Int):=by omega
 have a2:(m:Int)≤(nn:Int):=by omega
 have a3:(nn:Int)≤(nc:Int):=by omega
 have a4:(m:Int)<(nc:Int):=by omega
 rw [hW] at ra0
 go_enter Tryz.func53,Tryz.ntmps53
 go_wp2_with fail
 rw [← hW]
 clear hW ra0 ra1 ra2 ra3 ra4
 refine (ae CWH _).mono ?_
 rintro e w1 ⟨rfl,hb1⟩
 have YA:=af ((ae XA).but hb1 (by simp))
 have YB:=af ((ae XB).but hb1 (by simp))
 have YC:=af ((ae XC).but hb1 (by simp))
 have B1:=af ((ae BW).trans' hb1)
 clear hb1 XA XB XC BW CWH
 go_wp2
 have bA:But [] w1 (w1.alloc (.cells #[.bool ws,.int .u64 wx,.int .u64 0,.pointer none] 29)):=(But.refl _ _).alloc _
 have X7:=af (ax.new w1 ws wx 0 none _ 29 (ae FWH w1))
 have ZA:=af ((ae YA).but bA (by simp))
 have ZB:=af ((ae YB).but bA (by simp))
 have ZC:=af ((ae YC).but bA (by simp))
 have ZW:=af ((ae B1).trans' bA)
 have l7:w.heap.size+2<w1.heap.size:=(ae YC).lt
 clear bA YA YB YC B1
 generalize w1.heap.size=g7 at *
 generalize w1.alloc (.cells #[.bool ws,.int .u64 wx,.int .u64 0,.pointer none] 29)=V at *
 generalize hg4:w.heap.size+2=g4 at *
 generalize hg3:w.heap.size+1=g3 at *
 generalize hg2:w.heap.size=g2 at *
 have F0:Hid (an w (.slice (some ⟨nb,no+m*4,none⟩) (nn-m) (nc-m)) (az ns ss u2 0)):=by
  have hd:=an.drop (n:=m) (fs:=ns) (by rw [← ae HNN];exact ae HNS) (nn-m) (nc-m) (by rw [← ae HNN]) (by omega)
  have e:ns.drop m=az ns ss u2 0:=by
   show _=[_]
   have hml:m<ns.length:=by have:=ae HNN;omega
   rw [List.drop_eq_getElem_cons hml,List.drop_eq_nil_of_le (by have:=ae HNN;have:=ae HMN;omega)]
   have e2:ns.length-1=m:=by have:=ae HNN;have:=ae HMN;omega
   rw [e2,List.getElem?_eq_getElem hml,Option.getD_some]
  rw [← e]
  exact hd
 go_loopw [6,8] (fun v6 v8 wr=>∃ (j:Nat) (q:Option Addr) (l c:Nat),j≤m∧v6=.slice q l c∧v8=.int .i64 ((j:Int)-1)∧Hid (∀ b off,q=some ⟨b,off,none⟩→b≠g4)∧Hid (an wr v6 (az ns ss u2 (m-j))∧ax wr g7 (rpow u2 (m-j))∧WBox wr g2 (.slice (some ⟨nb,no,none⟩) nn nc) s1 x1 y1 p1∧WBox wr g3 (.slice (some ⟨sb,so,none⟩) sn sc) s2 x2 y2 p2∧WBox wr g4 (.slice none 0 0) false 0 0 none∧But [] w wr)) (fun _ v8 _=>(intOf v8+1).toNat)
 case atStart =>
  refine ⟨m,_,_,_,Nat.le_refl _,rfl,rfl,fun b off e=>?_,?_,?_,ae ZA,ae ZB,ae ZC,ae ZW⟩
  ·simp only [Option.some.injEq,Addr.mk.injEq] at e
   obtain ⟨e1,-,-⟩:=e
   obtain ⟨_,_,_,_,⟨z0,-⟩,-⟩:=(ae HNS).get 0 (by omega)
   have hz:nb<w.heap.size:=ai z0
   have h24:w.heap.size≤g4:=by omega
   omega
  ·rw [Nat.sub_self];exact (ae F0).but (ae ZW)
  ·rw [Nat.sub_self];exact ae X7
 case round =>
  obtain ⟨j,q,l,c,hj,rfl,rfl,HQ4,HI⟩:=hrel
  rename World=>wr
  clear X7 ZA ZB ZC ZW F0
  cases j with
  | succ k =>
   obtain ⟨t,ht⟩:∃ t,t=m-(k+1):=⟨_,rfl⟩
   have htk:m-k=t+1:=by omega
   have htn:t<nn:=by omega
   rw [← ht] at HI
   have ek:(((k+1:Nat):Int)-1)=(k:Int):=by omega
   rw [ek]
   obtain ⟨hl1,hl2,hl3⟩:=ae HL t htn
   obtain ⟨hfo,hb7,hwa,hwb,hwc,hbw⟩:=ae HI
   have hcp:=compL_pos ns ss u2 (by have:=ae HSN;omega) t
   have PR:=af (product_any (.slice q l c) (.slice (some ⟨sb,so,none⟩) sn sc) (az ns ss u2 t) ss 500 wr hfo ((ae HSS).but hbw) hl1 (by have:=ae HSN;omega) hcp (by have:=ae HSN;omega) hl2 lss (by omega))
   obtain ⟨N,hN⟩:∃ N,N=(az ns ss u2 t).length+ss.length-1:=⟨_,rfl⟩
   rw [← hN] at PR
   have hN0:0<N:=by have:=ae HSN;omega
   have hN1:N<1000000:=by have:=ae HSN;omega
   obtain ⟨wb0,wb1,wb2,wb3,wb4,-⟩:=id hwb
   have HHN:=af hN
   clear hfo hN hcp
   go_wp2_with fail
   refine (ae PR).mono ?_
   rintro e w2 ⟨g,rfl,hrow,hg1,hg2,hb2⟩
   have R2:=af hrow
   have D7:=af (hb7.but hb2)
   have DA:=af (hwa.but hb2 (by simp))
   have DB:=af (hwb.but hb2 (by simp))
   have DC:=af (hwc.but hb2 (by simp))
   have DW:=af (hbw.trans' hb2)
   have o7:g7<g:=Nat.lt_of_lt_of_le hb7.lt hg1
   clear hrow hb7 hwa hwb hwc hbw hb2 PR HI wb0 wb1 wb2 wb3 wb4 hg1
   obtain ⟨wb0,wb1,wb2,wb3,wb4,-⟩:=id (ae DB)
   obtain ⟨⟨t7,a7,c7,q7,⟨k0,k1,k2,k3⟩,hf7⟩,z7⟩:=ae D7
   have MU:=af (in_parts (fracMul_any _ _ _ _ w2 hf7 ((ae HU2).but (ae DW)) (hl3.mono (by omega)) (l2.mono (by omega))))
   have lg7:g7<w2.heap.size:=ai k0
   clear hf7
   go_wp2_with fail
   refine (ae MU).mono ?_
   rintro e w3 ⟨s8,x8,y8,p8,rfl,hf8,hb3⟩
   have z7':∀ j,w3.frozen? ⟨g7,j,none⟩=false:=fun j=>(hb3.frozen (p:=⟨g7,j,none⟩) lg7 (by simp)).trans (z7 j)
   replace k0:=hb3.ag k0 (by simp)
   replace k1:=hb3.ag k1 (by simp)
   replace k2:=hb3.ag k2 (by simp)
   replace k3:=hb3.ag k3 (by simp)
   have hf8':am w3 (.agg #[.bool s8,.int .u64 x8,.int .u64 y8,.pointer p8]) (rpow u2 (t+1)):=hf8
   have hP:=au w3 g7 s8 x8 y8 p8
   have hcc:∀ g ∈ [g7],∃ s,w3.cell? ⟨g,0,none⟩=some (.bool s):=fun g hg=>by simp at hg;subst hg;exact ⟨_,k0⟩
   have E7:=af (((ae D7).but hb3).put hf8')
   have R3:Hid (RowOf (put4 w3 g7 s8 x8 y8 p8) g N (convI (az ns ss u2 t) ss (az ns ss u2 t).length)):=by
    have h3:=(ae R2).but hb3 hg2
    exact ⟨fun j hj=>(h3.told j hj).beside hP (by simp;omega) hcc,fun o=>(put4_fz w3 g7 s8 x8 y8 p8 g o).trans (h3.loose o)⟩
   have EA:=af (((ae DA).but hb3 (by simp)).but hP (by simp;omega))
   have EB:=af (((ae DB).but hb3 (by simp)).but hP (by simp;omega))
   have EC:=af (((ae DC).but hb3 (by simp)).but hP (by simp;omega))
   have EW:=af (((ae DW).trans' hb3).trans hP (fun x hx=>by simp at hx;subst hx;exact .inr (by omega)))
   have EG:g<(put4 w3 g7 s8 x8 y8 p8).heap.size:=Nat.lt_of_lt_of_le (Nat.lt_of_lt_of_le hg2 hb3.size) hP.size
   clear hf8 hf8' hb3 MU D7 DA DB DC DW R2 wb0 wb1 wb2 wb3 wb4 z7
   go_wp2
   change Code.wp _ _ _ _ (put4 w3 g7 s8 x8 y8 p8)
   clear hP hcc k0 k1 k2 k3 z7'
   generalize put4 w3 g7 s8 x8 y8 p8=U at *
   obtain ⟨s0,x0,y0,p0,e0,hf0⟩:=(ae R3).told 0 hN0
   rw [Nat.zero_mul] at e0
   have hkn:k<nn:=by omega
   have hkl:k<ns.length:=by have:=ae HNN;omega
   obtain ⟨sk,xk,yk,pk,ek4,hfk⟩:=((ae HNS).but (ae EW)).get k hkn
   obtain ⟨⟨t7',a7',c7',q7',e7,hf7⟩,-⟩:=ae E7
   have lk:Len (ns[k]?.getD 0) 500:=by rw [List.getElem?_eq_getElem hkl];exact lns _ (List.getElem_mem hkl)
   have lr:Len (rpow u2 (t+1)) 2000:=len_mul hl3 l2 2000 (by omega)
   have lc:Len (convI (az ns ss u2 t) ss (az ns ss u2 t).length 0) 400000:=by
    refine (len_convI 500 _ ss hl2 lss _ (Nat.le_refl _) 0).mono ?_
    have:(az ns ss u2 t).length*(2*500+1)≤300*1001:=Nat.mul_le_mul hl1 (by omega)
    omega
   refine compounded_region 9 _ _ U g 0 N nb no nn nc k s0 x0 y0 p0 sk xk yk pk t7' a7' c7' q7' _ _ _ g2 g7 (by simp) e0 (ae R3).loose (by simp [Act.eval]) (by simp [Act.eval]) (by simp [Act.eval]) (by simp [Act.eval]) rfl hN0 hkn (by omega) (ae EA).c0 e0 ek4 e7 (fun w' hb=>fracMul_any _ _ _ _ w' (hfk.but hb) (hf7.but hb) (lk.mono (by omega)) (lr.mono (by omega))) (fun w' hb v' hv'=>fracAdd_gen 400000 3000 (by omega) _ _ _ _ w' (hf0.but hb) hv' lc (len_mul lk lr 3000 (by omega))) ?_
   intro w5 v10 s9 x9 y9 p9 hb5 hfz
   simp only [bb,List.foldl_cons,List.foldl_nil,Act.put,List.setIfInBounds_toArray,List.set_cons_zero,List.set_cons_succ]
   have hrow:=(ae R3).but hb5 EG
   have hset:=hrow.set hN0 s9 x9 y9 p9 _ hfz
   rw [Nat.zero_mul] at hset
   have hS:=bf w5 g [.bool s9,.int .u64 x9,.int .u64 y9,.pointer p9] 0
   obtain ⟨cb,hcb⟩:=hrow.bool hN0
   have hcc:∀ g' ∈ [g],∃ s,w5.cell? ⟨g',0,none⟩=some (.bool s):=fun g' hg=>by simp at hg;subst hg;exact ⟨_,hcb⟩
   have eL:az ns ss u2 (t+1)=(List.range N).map (setF (convI (az ns ss u2 t) ss (az ns ss u2 t).length) 0 (convI (az ns ss u2 t) ss (az ns ss u2 t).length 0+ns[k]?.getD 0*rpow u2 (t+1))):=by
    have e2:ns.length-1-(t+1)=k:=by have:=ae HNN;have:=ae HMN;omega
    show (List.range _).map _=_
    rw [← ae HHN,e2]
   have J1:=af hset.fracs
   rw [← eL,← htk] at J1
   have J7:=af (((ae E7).but hb5).beside hS (by simp;omega) hcc)
   rw [← htk] at J7
   have JA:=af (((ae EA).but hb5 (by simp)).but hS (by simp;omega))
   have JB:=af (((ae EB).but hb5 (by simp)).but hS (by simp;omega))
   have JC:=af (((ae EC).but hb5 (by simp)).but hS (by simp;omega))
   have JW:=af (((ae EW).trans' hb5).trans hS (fun x hx=>by simp at hx;subst hx;exact .inr (by omega)))
   generalize w5.setCells g 0 [.bool s9,.int .u64 x9,.int .u64 y9,.pointer p9]=V9 at *
   clear hrow hset hS hcb hcc hfz hb5 E7 EA EB EC EW R3 e0 hf0 ek4 hfk e7 hf7 lk lr lc eL
   go_wp2
   refine ⟨⟨k,_,_,_,by omega,rfl,rfl,fun b off e=>?_,ae J1,ae J7,ae JA,ae JB,ae JC,ae JW⟩,by simp [intOf]⟩
   simp only [Option.some.injEq,Addr.mk.injEq] at e
   obtain ⟨rfl,-,-⟩:=e
   omega
  | zero =>
   rw [Nat.sub_zero] at HI
   obtain ⟨hfo,hb7,hwa,hwb,hwc,hbw⟩:=ae HI
   obtain ⟨hl1,hl2,hl3⟩:=ae HL m hmn
   obtain ⟨⟨t7,a7,c7,q7,⟨k0,k1,k2,k3⟩,hf7⟩,-⟩:=hb7
   obtain ⟨wa0,wa1,wa2,wa3,wa4,-⟩:=id hwa
   have MU:=af (in_parts (fracMul_any _ _ _ _ wr hf7 ((ae HU1).but hbw) (hl3.mono (by omega)) (l1.mono (by omega))))
   have DC:=af hwc
   have DW:=af hbw
   have DF:=af hfo
   have ez:((0:Nat):Int)-1=-1:=by omega
   clear hfo hwa hwb hwc hbw hf7 HI
   go_wp2_with fail
   refine (ae MU).mono ?_
   rintro e w3 ⟨s8,x8,y8,p8,rfl,hf8,hb3⟩
   have EC:=af ((ae DC).but hb3 (by simp))
   have EW:=af ((ae DW).trans' hb3)
   have EF:=af ((ae DF).but hb3)
   have H8:=af hf8
   clear hf8 hb3 MU k0 k1 k2 k3 wa0 wa1 wa2 wa3 wa4 DC DW DF
   obtain ⟨d0,d1,d2,d3,d4,dz⟩:=id (ae EC)
   go_wp2
   have hS:=bf w3 g4 [.slice q l c,.bool s8,.int .u64 x8,.int .u64 y8,.pointer p8] 0
   obtain ⟨m0,m1,m2,m3,m4,-⟩:=(ae EC).put (.slice q l c) s8 x8 y8 p8
   have hF:But [] w (w3.setCells g4 0 [.slice q l c,.bool s8,.int .u64 x8,.int .u64 y8,.pointer p8]):=(ae EW).trans hS (fun x hx=>by simp at hx;subst hx;exact .inr (by omega))
   have hff:=(ae H8).overW d1 hS
   have hfo:=(ae EF).besideW hS d1 (fun b off n' c' e=>by
    simp only [Value.slice.injEq] at e
    exact ae HQ4 b off e.1)
   change bodyPost _ _ _ _ _ (w3.setCells g4 0 [.slice q l c,.bool s8,.int .u64 x8,.int .u64 y8,.pointer p8])
   generalize w3.setCells g4 0 [.slice q l c,.bool s8,.int .u64 x8,.int .u64 y8,.pointer p8]=F at *
   exact bodyPost_ret (v:=.agg #[.slice q l c,.bool s8,.int .u64 x8,.int .u64 y8,.pointer p8]) (by simp [results,Tryz.results53,go_sem,m0,m1,m2,m3,m4]) rfl ⟨_,s8,x8,y8,p8,rfl,hfo,hff,hF⟩
def lf (l:List Rat):Nat→Rat:=fun i=>l[i]?.getD 0
theorem lf_far (l:List Rat) (i:Nat) (h:l.length≤i):lf l i=0:=by
 unfold lf;rw [List.getElem?_eq_none h];rfl
theorem lf_map (F:Nat→Rat) (n i:Nat) (h:i<n):lf ((List.range n).map F) i=F i:=by
 unfold lf;rw [List.getElem?_map,List.getElem?_range h];rfl
theorem convK_is (F:Nat→Rat) (x:Rat) (bs:List Rat) (i:Nat):∀ k,k≤bs.length→∀ t,convK F x bs i k t=F t+(if i≤t∧t<i+k then x*lf bs (t-i) else 0)
 | 0,_,t=>by
  show F t=_
  rw [if_neg (by omega)];grind
 | k+1,hk,t=>by
  have ih:=convK_is F x bs i k (by omega)
  show setF _ _ _ t=_
  unfold setF
  by_cases e:t=i+k
  ·rw [if_pos e,ih,if_neg (by omega),if_pos (by omega),e,show i+k-i=k from by omega]
   unfold lf;grind
  ·rw [if_neg e,ih]
   by_cases h2:i≤t∧t<i+k
   ·rw [if_pos h2,if_pos (by omega)]
   ·rw [if_neg h2,if_neg (by omega)]
theorem convI_is (xs bs:List Rat):∀ i t,convI xs bs i t=us (fun k=>if k≤t then lf xs k*lf bs (t-k) else 0) i
 | 0,_=>rfl
 | i+1,t=>by
  have ih:=convI_is xs bs i t
  show (if (xs[i]?.getD 0).num=0 then convI xs bs i else convK (convI xs bs i) (xs[i]?.getD 0) bs i bs.length) t=us _ i+(if i≤t then lf xs i*lf bs (t-i) else 0)
  split
  ·rename_i h0
   have:lf xs i=0:=Rat.num_eq_zero.1 h0
   rw [ih,this]
   split <;> grind
  ·rw [convK_is _ _ _ _ _ (Nat.le_refl _),ih]
   congr 1
   by_cases h:i≤t
   ·rw [if_pos h]
    by_cases h2:t<i+bs.length
    ·rw [if_pos ⟨h,h2⟩];rfl
    ·rw [if_neg (fun q=>h2 q.2),lf_far bs _ (by omega)];grind
   ·rw [if_neg h,if_neg (fun q=>h q.1)]
theorem convI_cv (xs bs:List Rat) (t:Nat):convI xs bs xs.length t=cv (lf xs) (lf bs) t:=by
 rw [convI_is,cv_us]
 have e1:us (fun k=>if k≤t then lf xs k*lf bs (t-k) else 0) (xs.length+(t+1))=us (fun k=>if k≤t then lf xs k*lf bs (t-k) else 0) xs.length :=
  us_more _ _ _ (fun k hk=>by rw [lf_far xs k hk];split <;> grind)
 have e2:us (fun k=>if k≤t then lf xs k*lf bs (t-k) else 0) (t+1+xs.length)=us (fun k=>if k≤t then lf xs k*lf bs (t-k) else 0) (t+1) :=
  us_more _ _ _ (fun k hk=>by rw [if_neg (by omega)])
 rw [← e1,Nat.add_comm,e2]
 exact us_congr _ (fun k hk=>by rw [if_pos (by omega)])
def hor (no s:Nat→Rat) (last:Nat):Nat→Nat→Rat
 | 0=>fun i=>no last*un i
 | t+1=>fun i=>cv (hor no s last t) s i+no (last-(t+1))*un i
theorem hor_is (no s:Nat→Rat) (last:Nat):∀ t,t≤last→∀ i,hor no s last t i=us (fun k=>no (last-t+k)*pw s k i) (t+1)
 | 0,_,i=>by
  show no last*un i=0+no (last-0+0)*un i
  rw [show last-0+0=last from rfl];grind
 | t+1,h,i=>by
  have ih:=hor_is no s last t (by omega)
  have ih':hor no s last t=fun i=>us (fun k=>no (last-t+k)*pw s k i) (t+1):=by funext i;exact ih i
  have e2:∀ M,cv (fun i=>us (fun k=>no (last-t+k)*pw s k i) M) s i=us (fun k=>no (last-t+k)*pw s (k+1) i) M:=by
   intro M
   induction M with
   | zero=>exact congrFun (cv_zerol s) i
   | succ M ihM =>
    show cv (fun i=>us _ M+no (last-t+M)*pw s M i) s i=us _ M+_
    rw [cv_addl (fun i=>us (fun k=>no (last-t+k)*pw s k i) M) (fun i=>no (last-t+M)*pw s M i),cv_mull]
    show _+_*cv (pw s M) s i=_
    rw [ihM,cv_comm];rfl
  show cv (hor no s last t) s i+no (last-(t+1))*un i=_
  rw [ih',e2,us_first (fun k=>no (last-(t+1)+k)*pw s k i) (t+1),Nat.add_zero]
  have e3:us (fun k=>no (last-(t+1)+(k+1))*pw s (k+1) i) (t+1)=us (fun k=>no (last-t+k)*pw s (k+1) i) (t+1) :=
   us_congr _ (fun k _=>by rw [show last-(t+1)+(k+1)=last-t+k from by omega])
  rw [e3]
  show _+no (last-(t+1))*un i=no (last-(t+1))*un i+_
  grind
theorem rpow_is (u:Rat):∀ n,rpow u n=u^n
 | 0=>by rw [Rat.pow_zero];rfl
 | n+1=>by rw [Rat.pow_succ,← rpow_is u n];rfl
theorem compL_len (ns ss:List Rat) (u:Rat) (q:Nat) (hs:ss.length=q+1):∀ t,(az ns ss u t).length=t*q+1
 | 0=>by show 1=_;omega
 | t+1=>by
  have ih:=compL_len ns ss u q hs t
  simp only [az,List.length_map,List.length_range]
  rw [ih,hs,Nat.succ_mul];omega
theorem compL_hor (no s:Nat→Rat) (ns ss:List Rat) (uN uS:Rat) (last q:Nat) (hn:ns.length=last+1) (hs:ss.length=q+1) (en:∀ i,i≤last→lf ns i=uN*no i) (es:∀ i,lf ss i=uS*s i) :
  ∀ t,t≤last→∀ i,lf (az ns ss uS t) i=uN*rpow uS t*hor no s last t i
 | 0,_,i=>by
  show lf [ns[ns.length-1]?.getD 0] i=uN*1*(no last*un i)
  have e:=en last (Nat.le_refl _)
  unfold lf at e
  rw [hn,Nat.add_sub_cancel,e]
  unfold lf un
  cases i with
  | zero=>show uN*no last=_;rw [if_pos rfl];grind
  | succ i=>show (0:Rat)=_;rw [if_neg (by omega)];grind
 | t+1,ht,i=>by
  have ih:=compL_hor no s ns ss uN uS last q hn hs en es t (by omega)
  have len:=compL_len ns ss uS q hs
  have hs0:∀ k,q<k→uS*s k=0:=fun k hk=>by rw [← es,lf_far ss k (by omega)]
  have ecv:cv (lf (az ns ss uS t)) (lf ss)=fun i=>uN*rpow uS t*(uS*cv (hor no s last t) s i):=by
   rw [show lf (az ns ss uS t)=fun i=>uN*rpow uS t*hor no s last t i from by funext i;exact ih i,show lf ss=fun i=>uS*s i from by funext i;exact es i,cv_mull,cv_mulr]
  have hg:∀ i,setF (convI (az ns ss uS t) ss (az ns ss uS t).length) 0 (convI (az ns ss uS t) ss (az ns ss uS t).length 0+ns[ns.length-1-(t+1)]?.getD 0*rpow uS (t+1)) i=uN*rpow uS (t+1)*hor no s last (t+1) i:=by
   intro i
   have e:=en (last-(t+1)) (by omega)
   unfold lf at e
   unfold setF
   rw [hn,Nat.add_sub_cancel,e,convI_cv,convI_cv,ecv]
   show (if i=0 then uN*rpow uS t*(uS*cv (hor no s last t) s 0)+uN*no (last-(t+1))*(rpow uS t*uS) else uN*rpow uS t*(uS*cv (hor no s last t) s i))=uN*(rpow uS t*uS)*(cv (hor no s last t) s i+no (last-(t+1))*un i)
   unfold un
   split
   ·rename_i h;subst h;grind
   ·grind
  by_cases hi:i<(az ns ss uS (t+1)).length
  ·have hi':=hi
   rw [len] at hi'
   show lf ((List.range _).map _) i=_
   rw [lf_map _ _ _ (by have:=len t;rw [Nat.succ_mul] at hi';omega)]
   exact hg i
  ·rw [lf_far _ _ (Nat.le_of_not_lt hi)]
   rw [len] at hi
   rw [← hg i]
   unfold setF
   rw [if_neg (by omega),convI_cv]
   refine (cv_far _ _ (t*q) q i (fun k hk=>lf_far _ _ (by rw [len];omega)) (fun k hk=>lf_far _ _ (by omega)) (by rw [Nat.succ_mul] at hi;omega)).symm
def certL (n:Nat):List Rat:=(List.range (n+1)).map (setF (fun _=>0) n ((1:Int):Rat))
def ay (fs:List Rat):List Rat:=(List.range fs.length).map (fun i=>fs[i]?.getD 0*(((comN 1 fs:Nat):Int):Rat))
def timesL (fs:List Rat) (n:Nat):List Rat:=az (certL n) (ay fs) (((comN 1 fs:Nat):Int):Rat) n
theorem lawTimes_ok (b off cap l:Nat) (fs:List Rat) (m n c:Nat) (mx:Int) (w:World) (hv:an w (.slice (some ⟨b,off,none⟩) l cap) fs) (hN:l=fs.length) (hcap:l≤cap) (hln:fs.length≤201) (hm:m<fs.length) (h1:(fs[m]?.getD 0).num≠0) (h2:∀ j,m<j→j<fs.length→(fs[j]?.getD 0).num=0)
  (hck:chkE fs=0) (hn:n≤200) (hnm:n*m≤200) (lf:∀ f ∈ fs,Len f c) (hc:c≤100)
  (htab:Lib.TabIs Tryz.prog w "internal/strconv.uint64pow10" .u64 Lib.pow10Tab) (hmx:w.cell? ⟨4,0,none⟩=some (.int .i64 mx))
  (hU0:0<comN 1 (fs.take (m+1))) (hUl:Len (((comN 1 (fs.take (m+1)):Nat):Int):Rat) 1000) (hws:∀ f ∈ ay (fs.take (m+1)),Len f 500)
  (hl:∀ t,t<n+1→(az (certL n) (ay (fs.take (m+1))) (((comN 1 (fs.take (m+1)):Nat):Int):Rat) t).length≤300∧(∀ f ∈ az (certL n) (ay (fs.take (m+1))) (((comN 1 (fs.take (m+1)):Nat):Int):Rat) t,Len f 500)∧Len (rpow (((comN 1 (fs.take (m+1)):Nat):Int):Rat) t) 1000) :
  Calls Tryz.prog 58 #[.slice (some ⟨b,off,none⟩) l cap,.int .i64 (n:Int)] w fun e w'=>∃ g,e=.returned (.tuple #[.slice (some ⟨g,0,none⟩) (timesL (fs.take (m+1)) n).length (timesL (fs.take (m+1)) n).length,.nilIface])∧Row4 w' g (timesL (fs.take (m+1)) n).length (timesL (fs.take (m+1)) n).length (fun i=>(timesL (fs.take (m+1)) n)[i]?.getD 0/(rpow (((comN 1 (fs.take (m+1)):Nat):Int):Rat) n*((1:Int):Rat)))∧But [] w w':=by
 have CH:=af (lawCheck_any _ fs c w hv (by omega) lf hc)
 rw [hck] at CH
 have GR:=af (fun W (h:But [] w W)=>greatest_any _ fs m W (hv.but h) (by omega) hm h1 h2)
 have SH:=af (fun W (h:But [] w W)=>short_any b off cap l fs m W (hv.but h) hN hcap (by omega) hm h1 h2)
 have htl:(fs.take (m+1)).length=m+1:=by rw [List.length_take];omega
 have WA:=af (fun W v' (h:But [] w W) (hv':an W v' (fs.take (m+1)))=>waysOf_any v' (fs.take (m+1)) W mx c hv' (by omega) (fun f hf=>lf f (List.mem_of_mem_take hf)) hc (TabIs.but htab h) (h.ag hmx (by simp)))
 have CE:=af (certain_any n (by omega))
 have HL:=af hl
 have HV:=af hv
 clear hv lf htab hmx h1 h2 hck hl hN
 go_enter Tryz.func58,Tryz.ntmps58
 go_wp2_with fail
 refine (ae CH).mono ?_
 rintro e w1 ⟨rfl,hb1⟩
 have B1:=af hb1
 clear hb1 CH
 rw [show errV 0=.nilIface from rfl]
 go_wp2_with fail
 refine (ae GR _ (ae B1)).mono ?_
 rintro e w2 ⟨rfl,hb2⟩
 have B2:=af ((ae B1).trans' hb2)
 clear hb2 GR
 have hp:((n:Int)*(m:Int))≤200:=by
  have h3:((n*m:Nat):Int)≤200:=by omega
  rw [Int.natCast_mul] at h3
  exact h3
 have hp0:0≤((n:Int)*(m:Int)):=Int.mul_nonneg (by omega) (by omega)
 have hcut:¬ (200:Int)<(n:Int)*(m:Int):=by omega
 generalize hnmm:(n:Int)*(m:Int)=pnm at *
 go_wp2_with fail
 refine (ae CE _).mono ?_
 rintro e w3 ⟨gc,sc,xc,rfl,hfc,hrc,hgc1,hgc2,hb3⟩
 have B3:=af ((ae B2).trans' hb3)
 have RC:=af hrc.fracs
 have FC:=af hfc
 clear hrc hfc hb3 CE
 go_wp2_with fail
 refine (ae SH _ (ae B3)).mono ?_
 rintro e w4 ⟨rfl,hfs,hb4⟩
 have B4:=af ((ae B3).trans' hb4)
 have RC4:=af ((ae RC).but hb4)
 have FS:=af hfs
 clear hfs hb4 SH RC
 go_wp2_with fail
 refine (ae WA _ _ (ae B4) (ae FS)).mono ?_
 rintro e w5 ⟨gw,sw,xw,yw,pw,rfl,hfw,hrw,hgw1,hgw2,hb5⟩
 have B5:=af ((ae B4).trans' hb5)
 have RC5:=af ((ae RC4).but hb5)
 have hrw':=hrw.fracs
 rw [htl] at hrw' ⊢
 have eW:(List.range (m+1)).map (fun i=>(fs.take (m+1))[i]?.getD 0*(((comN 1 (fs.take (m+1)):Nat):Int):Rat))=ay (fs.take (m+1)):=by unfold ay;rw [htl]
 rw [eW] at hrw'
 have CP:=af (compounded_any gc 0 (n+1) (n+1) gw 0 (m+1) (m+1) sc sw xc 0 xw yw none pw (certL n) (ay (fs.take (m+1))) ((1:Int):Rat) (((comN 1 (fs.take (m+1)):Nat):Int):Rat) w5 (ae RC5) hrw' (by unfold certL;simp) (by unfold ay;simp [htl]) (Nat.le_refl _) (by omega) (ae FC w5) hfw ((len_int 1 (by decide)).mono (by omega)) hUl (by omega) (by omega) (by omega) (by omega) (fun f hf=>by
   unfold certL at hf
   obtain ⟨i,-,rfl⟩:=List.mem_map.1 hf
   unfold setF
   split
   ·exact (len_int 1 (by decide)).mono (by omega)
   ·exact len_zero _ (by omega)) hws (ae HL))
 rw [Nat.add_sub_cancel] at CP
 clear hfw hrw hrw' hb5 WA RC4 FS
 go_wp2_with fail
 refine (ae CP).mono ?_
 rintro e w6 ⟨vo,so,xo,yo,po,rfl,hfo,hfu,hb6⟩
 have B6:=af ((ae B5).trans' hb6)
 have hlt:=ae HL n (by omega)
 have hune:(rpow (((comN 1 (fs.take (m+1)):Nat):Int):Rat) n*((1:Int):Rat)).num≠0:=by
  have e:((1:Int):Rat)=1:=rfl
  rw [e,Rat.mul_one,(rpow_parts _ n).1,(bd _).1]
  exact Int.ne_of_gt (Int.pow_pos (by omega))
 have CC:=af (chances_any vo so xo yo po (timesL (fs.take (m+1)) n) _ w6 hfo hfu (Nat.le_trans hlt.1 (by omega)) (fun f hf=>(hlt.2.1 f hf).mono (by omega)) (len_mul hlt.2.2 (len_int 1 (by decide)) _ (by omega)) hune)
 obtain ⟨qo,co,rfl,-,-⟩:=id hfo
 clear hfo hfu hb6 CP
 go_wp2_with fail
 refine (ae CC).mono ?_
 rintro e w7 ⟨g,rfl,hr7,-,-,hb7⟩
 have R7:=af hr7
 have B7:=af ((ae B6).trans' hb7)
 clear hr7 hb7 CC
 go_wp2
 exact bodyPost_ret (v:=.tuple #[.slice (some ⟨g,0,none⟩) (timesL (fs.take (m+1)) n).length (timesL (fs.take (m+1)) n).length,.nilIface]) (by simp [results,Tryz.results58,go_sem]) rfl ⟨g,rfl,ae R7,ae B7⟩
def bothC (fs gs:List Rat):Int:=if chkE fs≠0 then chkE fs else chkE gs
theorem claimsBoth_any (va vb:Value) (fs gs:List Rat) (c:Nat) (w:World) (ha:an w va fs) (hb:an w vb gs) (hn:fs.length≤1000) (hm:gs.length≤1000) (lf:∀ f ∈ fs,Len f c) (lg:∀ f ∈ gs,Len f c) (hc:c≤100) :
  Calls Tryz.prog 51 #[va,vb] w fun e w'=>e=.returned (errV (bothC fs gs))∧But [] w w':=by
 have CA:=af (lawCheck_any va fs c w ha hn lf hc)
 have CB:=af (fun W (h:But [] w W)=>lawCheck_any vb gs c W (hb.but h) hm lg hc)
 obtain ⟨q,cap,rfl,-,-⟩:=id ha
 obtain ⟨q',cap',rfl,-,-⟩:=id hb
 obtain ⟨be,hbe⟩:∃ be,be=bothC fs gs:=⟨_,rfl⟩
 rw [← hbe]
 unfold bothC at hbe
 obtain ⟨ca,hca⟩:∃ ca,ca=chkE fs:=⟨_,rfl⟩
 obtain ⟨cb,hcb⟩:∃ cb,cb=chkE gs:=⟨_,rfl⟩
 rw [← hca] at CA hbe
 rw [← hcb] at CB hbe
 have HBE:=af hbe
 clear ha hb hca hcb hbe
 go_enter Tryz.func51,Tryz.ntmps51
 go_wp2_with fail
 refine (ae CA).mono ?_
 rintro e w1 ⟨rfl,hb1⟩
 have B1:=af hb1
 clear hb1 CA
 by_cases h0:ca=0
 ·obtain rfl:be=cb:=by rw [ae HBE,if_neg (by simpa using h0)]
  rw [h0,show errV 0=.nilIface from rfl]
  go_wp2_with fail
  refine (ae CB _ (ae B1)).mono ?_
  rintro e w2 ⟨rfl,hb2⟩
  have B2:=af ((ae B1).trans' hb2)
  clear hb2
  obtain ⟨ev,hev⟩:∃ ev,ev=errV be:=⟨_,rfl⟩
  rw [← hev]
  have HEV:=af hev
  clear hev
  go_wp2
  go_ret
  exact ⟨congrArg _ (ae HEV),ae B2⟩
 ·obtain rfl:be=ca:=by rw [ae HBE,if_pos h0]
  obtain ⟨ev,hev⟩:∃ ev,ev=errV be:=⟨_,rfl⟩
  have hev2:ev=.iface 54 (.int .i64 be):=by rw [hev];unfold errV;rw [if_neg h0]
  rw [← hev,hev2]
  have HEV:=af (hev2.symm.trans hev)
  clear hev hev2
  go_wp2
  go_ret
  exact ⟨congrArg _ (ae HEV),ae B1⟩
theorem compound_err (va vb:Value) (fs gs:List Rat) (c:Nat) (w:World) (ha:an w va fs) (hb:an w vb gs) (hn:fs.length≤1000) (hm:gs.length≤1000) (lf:∀ f ∈ fs,Len f c) (lg:∀ f ∈ gs,Len f c) (hc:c≤100) (hne:bothC fs gs≠0) :
  Calls Tryz.prog 12 #[va,vb] w fun e w'=>e=.returned (.tuple #[.slice none 0 0,.iface 54 (.int .i64 (bothC fs gs))])∧But [] w w':=by
 have CH:=af (claimsBoth_any va vb fs gs c w ha hb hn hm lf lg hc)
 obtain ⟨q,cap,rfl,-,-⟩:=id ha
 obtain ⟨q',cap',rfl,-,-⟩:=id hb
 rw [show errV (bothC fs gs)=.iface 54 (.int .i64 (bothC fs gs)) from by unfold errV;rw [if_neg hne]] at CH
 generalize bothC fs gs=z at *
 clear ha hb lf lg hne
 go_enter Tryz.func12,Tryz.ntmps12
 go_wp2_with fail
 refine (ae CH).mono ?_
 rintro e w1 ⟨rfl,hb1⟩
 have B1:=af hb1
 clear hb1 CH
 go_wp2
 exact bodyPost_ret (v:=.tuple #[.slice none 0 0,.iface 54 (.int .i64 z)]) (by simp [results,Tryz.results12,go_sem]) rfl ⟨rfl,ae B1⟩
theorem compound_ok (nb nf nc nl b off cap l:Nat) (ns fs:List Rat) (k m c:Nat) (mx:Int) (w:World) (hns:an w (.slice (some ⟨nb,nf,none⟩) nl nc) ns) (hNl:nl=ns.length) (hncap:nl≤nc) (hln2:ns.length≤201) (hk:k<ns.length) (n1:(ns[k]?.getD 0).num≠0) (n2:∀ j,k<j→j<ns.length→(ns[j]?.getD 0).num=0)
  (hv:an w (.slice (some ⟨b,off,none⟩) l cap) fs) (hN:l=fs.length) (hcap:l≤cap) (hln:fs.length≤201) (hm:m<fs.length) (h1:(fs[m]?.getD 0).num≠0) (h2:∀ j,m<j→j<fs.length→(fs[j]?.getD 0).num=0)
  (hck:bothC ns fs=0) (hkm:k*m≤200) (ln:∀ f ∈ ns,Len f c) (lf:∀ f ∈ fs,Len f c) (hc:c≤100)
  (htab:Lib.TabIs Tryz.prog w "internal/strconv.uint64pow10" .u64 Lib.pow10Tab) (hmx:w.cell? ⟨4,0,none⟩=some (.int .i64 mx))
  (hU0:0<comN 1 (fs.take (m+1))) (hUN:0<comN 1 (ns.take (k+1))) (hUl:Len (((comN 1 (fs.take (m+1)):Nat):Int):Rat) 1000) (hUNl:Len (((comN 1 (ns.take (k+1)):Nat):Int):Rat) 1000) (hws:∀ f ∈ ay (fs.take (m+1)),Len f 500) (hwn:∀ f ∈ ay (ns.take (k+1)),Len f 500)
  (hl:∀ t,t<k+1→(az (ay (ns.take (k+1))) (ay (fs.take (m+1))) (((comN 1 (fs.take (m+1)):Nat):Int):Rat) t).length≤300∧(∀ f ∈ az (ay (ns.take (k+1))) (ay (fs.take (m+1))) (((comN 1 (fs.take (m+1)):Nat):Int):Rat) t,Len f 500)∧Len (rpow (((comN 1 (fs.take (m+1)):Nat):Int):Rat) t) 1000) :
  Calls Tryz.prog 12 #[.slice (some ⟨nb,nf,none⟩) nl nc,.slice (some ⟨b,off,none⟩) l cap] w fun e w'=>∃ g,e=.returned (.tuple #[.slice (some ⟨g,0,none⟩) (az (ay (ns.take (k+1))) (ay (fs.take (m+1))) (((comN 1 (fs.take (m+1)):Nat):Int):Rat) k).length (az (ay (ns.take (k+1))) (ay (fs.take (m+1))) (((comN 1 (fs.take (m+1)):Nat):Int):Rat) k).length,.nilIface])∧Row4 w' g (az (ay (ns.take (k+1))) (ay (fs.take (m+1))) (((comN 1 (fs.take (m+1)):Nat):Int):Rat) k).length (az (ay (ns.take (k+1))) (ay (fs.take (m+1))) (((comN 1 (fs.take (m+1)):Nat):Int):Rat) k).length (fun i=>(az (ay (ns.take (k+1))) (ay (fs.take (m+1))) (((comN 1 (fs.take (m+1)):Nat):Int):Rat) k)[i]?.getD 0/(rpow (((comN 1 (fs.take (m+1)):Nat):Int):Rat) k*(((comN 1 (ns.take (k+1)):Nat):Int):Rat)))∧But [] w w':=by
 have CH:=af (claimsBoth_any _ _ ns fs c w hns hv (by omega) (by omega) ln lf hc)
 rw [hck] at CH
 have GN:=af (fun W (h:But [] w W)=>greatest_any _ ns k W (hns.but h) (by omega) hk n1 n2)
 have GR:=af (fun W (h:But [] w W)=>greatest_any _ fs m W (hv.but h) (by omega) hm h1 h2)
 have SN:=af (fun W (h:But [] w W)=>short_any nb nf nc nl ns k W (hns.but h) hNl hncap (by omega) hk n1 n2)
 have SH:=af (fun W (h:But [] w W)=>short_any b off cap l fs m W (hv.but h) hN hcap (by omega) hm h1 h2)
 have htl:(fs.take (m+1)).length=m+1:=by rw [List.length_take];omega
 have htn:(ns.take (k+1)).length=k+1:=by rw [List.length_take];omega
 have WN:=af (fun W v' (h:But [] w W) (hv':an W v' (ns.take (k+1)))=>waysOf_any v' (ns.take (k+1)) W mx c hv' (by omega) (fun f hf=>ln f (List.mem_of_mem_take hf)) hc (TabIs.but htab h) (h.ag hmx (by simp)))
 have WA:=af (fun W v' (h:But [] w W) (hv':an W v' (fs.take (m+1)))=>waysOf_any v' (fs.take (m+1)) W mx c hv' (by omega) (fun f hf=>lf f (List.mem_of_mem_take hf)) hc (TabIs.but htab h) (h.ag hmx (by simp)))
 have HL:=af hl
 clear hns hv ln lf htab hmx h1 h2 n1 n2 hck hl hN hNl
 go_enter Tryz.func12,Tryz.ntmps12
 go_wp2_with fail
 refine (ae CH).mono ?_
 rintro e w1 ⟨rfl,hb1⟩
 have B1:=af hb1
 clear hb1 CH
 rw [show errV 0=.nilIface from rfl]
 go_wp2_with fail
 refine (ae GN _ (ae B1)).mono ?_
 rintro e w2 ⟨rfl,hb2⟩
 have B2:=af ((ae B1).trans' hb2)
 clear hb2 GN
 go_wp2_with fail
 refine (ae GR _ (ae B2)).mono ?_
 rintro e w3 ⟨rfl,hb3⟩
 have B3:=af ((ae B2).trans' hb3)
 clear hb3 GR
 have hp:((k:Int)*(m:Int))≤200:=by
  have h3:((k*m:Nat):Int)≤200:=by omega
  rw [Int.natCast_mul] at h3
  exact h3
 have hp0:0≤((k:Int)*(m:Int)):=Int.mul_nonneg (by omega) (by omega)
 have hcut:¬ (200:Int)<(k:Int)*(m:Int):=by omega
 generalize hnmm:(k:Int)*(m:Int)=pnm at *
 go_wp2_with fail
 refine (ae SN _ (ae B3)).mono ?_
 rintro e w4 ⟨rfl,hfn,hb4⟩
 have B4:=af ((ae B3).trans' hb4)
 have FN:=af hfn
 clear hfn hb4 SN
 go_wp2_with fail
 refine (ae WN _ _ (ae B4) (ae FN)).mono ?_
 rintro e w5 ⟨gn,sn,xn,yn,pn,rfl,hfn,hrn,hgn1,hgn2,hb5⟩
 have B5:=af ((ae B4).trans' hb5)
 have hrn':=hrn.fracs
 rw [htn] at hrn' ⊢
 have eN:(List.range (k+1)).map (fun i=>(ns.take (k+1))[i]?.getD 0*(((comN 1 (ns.take (k+1)):Nat):Int):Rat))=ay (ns.take (k+1)):=by unfold ay;rw [htn]
 rw [eN] at hrn'
 have RN:=af hrn'
 have FUN:=af hfn
 clear hfn hrn hrn' hb5 WN FN
 go_wp2_with fail
 refine (ae SH _ (ae B5)).mono ?_
 rintro e w6 ⟨rfl,hfs,hb6⟩
 have B6:=af ((ae B5).trans' hb6)
 have RN6:=af ((ae RN).but hb6)
 have FUN6:=af ((ae FUN).but hb6)
 have FS:=af hfs
 clear hfs hb6 SH RN FUN
 go_wp2_with fail
 refine (ae WA _ _ (ae B6) (ae FS)).mono ?_
 rintro e w7 ⟨gw,sw,xw,yw,pw,rfl,hfw,hrw,hgw1,hgw2,hb7⟩
 have B7:=af ((ae B6).trans' hb7)
 have RN7:=af ((ae RN6).but hb7)
 have FUN7:=af ((ae FUN6).but hb7)
 have hrw':=hrw.fracs
 rw [htl] at hrw' ⊢
 have eW:(List.range (m+1)).map (fun i=>(fs.take (m+1))[i]?.getD 0*(((comN 1 (fs.take (m+1)):Nat):Int):Rat))=ay (fs.take (m+1)):=by unfold ay;rw [htl]
 rw [eW] at hrw'
 have CP:=af (compounded_any gn 0 (k+1) (k+1) gw 0 (m+1) (m+1) sn sw xn yn xw yw pn pw (ay (ns.take (k+1))) (ay (fs.take (m+1))) (((comN 1 (ns.take (k+1)):Nat):Int):Rat) (((comN 1 (fs.take (m+1)):Nat):Int):Rat) w7 (ae RN7) hrw' (by unfold ay;simp [htn]) (by unfold ay;simp [htl]) (Nat.le_refl _) (by omega) (ae FUN7) hfw hUNl hUl (by omega) (by omega) (by omega) (by omega) hwn hws (ae HL))
 rw [Nat.add_sub_cancel] at CP
 clear hfw hrw hrw' hb7 WA RN6 FUN6 FS RN7 FUN7
 go_wp2_with fail
 refine (ae CP).mono ?_
 rintro e w8 ⟨vo,so,xo,yo,po,rfl,hfo,hfu,hb8⟩
 have B8:=af ((ae B7).trans' hb8)
 have hlt:=ae HL k (by omega)
 have hune:(rpow (((comN 1 (fs.take (m+1)):Nat):Int):Rat) k*(((comN 1 (ns.take (k+1)):Nat):Int):Rat)).num≠0:=fun h=>by
  have h1:=Rat.num_eq_zero.1 h
  rcases Rat.mul_eq_zero.1 h1 with h2 | h2
  ·have h3:(rpow (((comN 1 (fs.take (m+1)):Nat):Int):Rat) k).num=0:=by rw [h2];rfl
   rw [(rpow_parts _ k).1,(bd _).1] at h3
   exact Int.ne_of_gt (Int.pow_pos (by omega)) h3
  ·have:=Rat.intCast_eq_zero_iff.1 h2
   omega
 have CC:=af (chances_any vo so xo yo po (az (ay (ns.take (k+1))) (ay (fs.take (m+1))) (((comN 1 (fs.take (m+1)):Nat):Int):Rat) k) _ w8 hfo hfu (Nat.le_trans hlt.1 (by omega)) (fun f hf=>(hlt.2.1 f hf).mono (by omega)) ((len_mul hlt.2.2 hUNl 2000 (by omega)).mono (by omega)) hune)
 obtain ⟨qo,co,rfl,-,-⟩:=id hfo
 clear hfo hfu hb8 CP
 go_wp2_with fail
 refine (ae CC).mono ?_
 rintro e w9 ⟨g,rfl,hr9,-,-,hb9⟩
 have R9:=af hr9
 have B9:=af ((ae B8).trans' hb9)
 clear hr9 hb9 CC
 go_wp2
 exact bodyPost_ret (v:=.tuple #[.slice (some ⟨g,0,none⟩) (az (ay (ns.take (k+1))) (ay (fs.take (m+1))) (((comN 1 (fs.take (m+1)):Nat):Int):Rat) k).length (az (ay (ns.take (k+1))) (ay (fs.take (m+1))) (((comN 1 (fs.take (m+1)):Nat):Int):Rat) k).length,.nilIface]) (by simp [results,Tryz.results12,go_sem]) rfl ⟨g,rfl,ae R9,ae B9⟩
def hlf:Rat:=((1:Int):Rat)/((2:Int):Rat)
theorem hlf_parts:hlf.num=1∧hlf.den=2:=⟨by kernel_rfl,by kernel_rfl⟩
theorem hlf_len:Len hlf 1:=len_of (m:=1) (n:=1) (by rw [hlf_parts.1];decide) (by rw [hlf_parts.2];decide) 1 (Nat.le_refl _) (Nat.le_refl _)
theorem coin_chk:chkE [hlf,hlf]=0:=by kernel_rfl
theorem coin_com:comN 1 ([hlf,hlf].take (1+1))=2:=by kernel_rfl
theorem coin_ways:ay ([hlf,hlf].take (1+1))=[((1:Int):Rat),((1:Int):Rat)]:=by kernel_rfl
theorem coin_c0:az (certL 2) [((1:Int):Rat),((1:Int):Rat)] (((2:Nat):Int):Rat) 0=[((1:Int):Rat)]:=by kernel_rfl
theorem coin_c1:az (certL 2) [((1:Int):Rat),((1:Int):Rat)] (((2:Nat):Int):Rat) 1=[((1:Int):Rat),((1:Int):Rat)]:=by kernel_rfl
theorem coin_c2:az (certL 2) [((1:Int):Rat),((1:Int):Rat)] (((2:Nat):Int):Rat) 2=[((1:Int):Rat),((2:Int):Rat),((1:Int):Rat)]:=by kernel_rfl
theorem coin_half:((2:Int):Rat)/(rpow (((2:Nat):Int):Rat) 2*((1:Int):Rat))=hlf:=by kernel_rfl
theorem coin_p0:rpow (((2:Nat):Int):Rat) 0=((1:Int):Rat):=by kernel_rfl
theorem coin_p1:rpow (((2:Nat):Int):Rat) 1=((2:Int):Rat):=by kernel_rfl
theorem coin_p2:rpow (((2:Nat):Int):Rat) 2=((4:Int):Rat):=by kernel_rfl
theorem coin_times (b off:Nat) (mx:Int) (w:World) (hv:an w (.slice (some ⟨b,off,none⟩) 2 2) [hlf,hlf]) (htab:Lib.TabIs Tryz.prog w "internal/strconv.uint64pow10" .u64 Lib.pow10Tab) (hmx:w.cell? ⟨4,0,none⟩=some (.int .i64 mx)) :
  Calls Tryz.prog 58 #[.slice (some ⟨b,off,none⟩) 2 2,.int .i64 2] w fun e w'=>∃ g s x y p,e=.returned (.tuple #[.slice (some ⟨g,0,none⟩) 3 3,.nilIface])∧P4o w' g 4 s x y p∧am w' (.agg #[.bool s,.int .u64 x,.int .u64 y,.pointer p]) hlf∧But [] w w':=by
 have l1:∀ n:Nat,1≤n→Len ((1:Int):Rat) n:=fun n hn=>(len_int 1 (by decide)).mono hn
 have l2:∀ n:Nat,1≤n→Len ((2:Int):Rat) n:=fun n hn=>(len_int 2 (by decide)).mono hn
 have l4:∀ n:Nat,1≤n→Len ((4:Int):Rat) n:=fun n hn=>(len_int 4 (by decide)).mono hn
 have hlf0:hlf.num≠0:=by rw [hlf_parts.1];decide
 have h:=lawTimes_ok b off 2 2 [hlf,hlf] 1 2 1 mx w hv rfl (Nat.le_refl _) (by show 2≤201;omega) (by show 1<2;omega) hlf0 (fun j h1 h2=>by
   have:j<2:=h2
   omega) coin_chk (by omega) (by omega) (fun f hf=>by
   simp at hf
   rw [hf];exact hlf_len) (by omega) htab hmx (by rw [coin_com];omega) (by rw [coin_com];exact l2 _ (by omega)) (fun f hf=>by
   rw [coin_ways] at hf
   simp at hf
   rw [hf];exact l1 _ (by omega)) (fun t ht=>by
   rw [coin_ways,coin_com]
   have:t=0∨t=1∨t=2:=by omega
   rcases this with rfl | rfl | rfl
   ·rw [coin_c0,coin_p0]
    refine ⟨by simp,fun f hf=>?_,l1 _ (by omega)⟩
    simp only [List.mem_cons,List.not_mem_nil,or_false] at hf
    rw [hf];exact l1 _ (by omega)
   ·rw [coin_c1,coin_p1]
    refine ⟨by simp,fun f hf=>?_,l2 _ (by omega)⟩
    simp only [List.mem_cons,List.not_mem_nil,or_false] at hf
    rcases hf with rfl | rfl
    ·exact l1 _ (by omega)
    ·exact l1 _ (by omega)
   ·rw [coin_c2,coin_p2]
    refine ⟨by simp,fun f hf=>?_,l4 _ (by omega)⟩
    simp only [List.mem_cons,List.not_mem_nil,or_false] at hf
    rcases hf with rfl | rfl | rfl
    ·exact l1 _ (by omega)
    ·exact l2 _ (by omega)
    ·exact l1 _ (by omega))
 have eT:timesL ([hlf,hlf].take (1+1)) 2=[((1:Int):Rat),((2:Int):Rat),((1:Int):Rat)]:=by
  unfold timesL
  rw [coin_ways,coin_com]
  exact coin_c2
 rw [eT,coin_com] at h
 refine h.mono ?_
 rintro e w' ⟨g,rfl,hr,hb⟩
 obtain ⟨s,x,y,p,h1,h2⟩:=hr.told 1 (by simp)
 refine ⟨g,s,x,y,p,rfl,h1,?_,hb⟩
 have e1:([((1:Int):Rat),((2:Int):Rat),((1:Int):Rat)][1]?.getD 0)/(rpow (((2:Nat):Int):Rat) 2*((1:Int):Rat))=hlf:=coin_half
 rw [e1] at h2
 exact h2
theorem dec1K:Lib.decDigits 1=[49]:=by rw [Lib.decDigits];simp
theorem dec2K:Lib.decDigits 2=[50]:=by rw [Lib.decDigits];simp
theorem txt_halfK:fracTxt false 1 2=⟨#[49,47,50]⟩:=by unfold fracTxt;rw [dec1K,dec2K];rfl
theorem txt_hlf:fracTxt (decide (hlf.num<0)) hlf.num.natAbs hlf.den=⟨#[49,47,50]⟩:=by
 rw [hlf_parts.1,hlf_parts.2]
 exact txt_halfK
theorem dice_any (mx:Int) (w:World) (htab:Lib.TabIs Tryz.prog w "internal/strconv.uint64pow10" .u64 Lib.pow10Tab) (hmx:w.cell? ⟨4,0,none⟩=some (.int .i64 mx)) :
  Calls Tryz.prog 14 #[] w fun e w'=>e=.returned (.bool true)∧But [] w w':=by
 obtain ⟨s1,x1,F1,C1⟩:=whole_is 1 (by omega) (by omega)
 obtain ⟨s2,x2,F2,C2⟩:=whole_is 2 (by omega) (by omega)
 have TI:Hid (∀ b W,But [] w W→an W (.slice (some ⟨b,0,none⟩) 2 2) [hlf,hlf]→Calls Tryz.prog 58 #[.slice (some ⟨b,0,none⟩) 2 2,.int .i64 2] W fun e w'=>∃ g s x y p,e=.returned (.tuple #[.slice (some ⟨g,0,none⟩) 3 3,.nilIface])∧P4o w' g 4 s x y p∧am w' (.agg #[.bool s,.int .u64 x,.int .u64 y,.pointer p]) hlf∧But [] W w'):=fun b W hb hf=>coin_times b 0 mx W hf (TabIs.but htab hb) (hb.ag hmx (by simp))
 have TX:Hid (∀ v W,But [] w W→am W v hlf→Calls Tryz.prog 59 #[v] W fun e w'=>e=.returned (.string ⟨#[49,47,50]⟩)∧But [] W w'):=fun v W hb hf=>fracText_len v hlf W hf (hlf_len.mono (by omega)) (TabIs.but htab hb) _ txt_hlf.symm
 have HC1:=af C1
 have HF1:=af F1
 have HF2:=af F2
 clear htab hmx C1 F1 F2
 go_enter Tryz.func14,Tryz.ntmps14
 go_wp2_with fail
 refine (ae HC1 _).mono ?_
 rintro e w1 ⟨rfl,hb1⟩
 have X1:=af (ax.new w1 s1 x1 0 none _ 29 (ae HF1 w1))
 have c1:P4 (w1.alloc (.cells #[.bool s1,.int .u64 x1,.int .u64 0,.pointer none] 29)) w1.heap.size s1 x1 0 none:=⟨by simp,by simp,by simp,by simp⟩
 have B1:=af (hb1.trans' ((But.refl _ _).alloc (.cells #[.bool s1,.int .u64 x1,.int .u64 0,.pointer none] 29)))
 have o1:w.heap.size≤w1.heap.size:=hb1.size
 have K1:=af c1
 clear c1 hb1 HC1
 go_wp2
 generalize w1.heap.size=g1 at *
 generalize w1.alloc (.cells #[.bool s1,.int .u64 x1,.int .u64 0,.pointer none] 29)=U at *
 refine dice_region 2 _ _ U s1 x1 0 none s2 x2 hlf g1 (by simp) (by simp [Act.eval]) (ae K1) (ae X1).2 C2 (fun W hb=>(fracDiv_any _ _ ((1:Int):Rat) ((2:Int):Rat) W (ae HF1 W) (ae HF2 W) ((len_int 1 (by decide)).mono (by omega)) ((len_int 2 (by decide)).mono (by omega)) (by decide)).mono ?_) ?_
 ·rintro e w' ⟨v,rfl,hf,hb'⟩
  refine ⟨_,rfl,?_,hb'⟩
  obtain ⟨x,y,p,rfl,-⟩:=hf.agg
  exact ⟨_,x,y,p,rfl,hf⟩
 intro w2 w3 v2 v3 v4 v6 s x y p hb2 hf2 hb3
 simp only [bb,List.foldl_cons,List.foldl_nil,Act.put,List.setIfInBounds_toArray,List.set_cons_zero,List.set_cons_succ]
 have hP:=au w2 g1 s x y p
 have x3:=(((ae X1).but hb2).put hf2).but hb3
 have B3:=af ((((ae B1).trans' hb2).trans hP (fun z hz=>by simp at hz;subst hz;exact .inr o1)).trans' hb3)
 have p3:P4 w3 g1 s x y p:=(put4_p4 w2 g1 s x y p ((ae K1).but hb2 (by simp))).but hb3 (by simp)
 have f3:am w3 (.agg #[.bool s,.int .u64 x,.int .u64 y,.pointer p]) hlf:=(hf2.over ((ae K1).but hb2 (by simp)).1 hP).but hb3
 have HF3:=af f3
 obtain ⟨d0,d1,d2,d3⟩:=p3
 clear f3 hf2 hb2 hb3 hP x3 X1 K1 B1 C2
 go_wp2_with fail
 have bS:But [] w3 (w3.alloc (.cells #[.bool s,.int .u64 x,.int .u64 y,.pointer p,.bool s,.int .u64 x,.int .u64 y,.pointer p] 29)):=(But.refl _ _).alloc _
 have fS:an (w3.alloc (.cells #[.bool s,.int .u64 x,.int .u64 y,.pointer p,.bool s,.int .u64 x,.int .u64 y,.pointer p] 29)) (.slice (some ⟨w3.heap.size,0,none⟩) 2 2) [hlf,hlf]:=by
  refine ⟨some ⟨w3.heap.size,0,none⟩,2,rfl,Nat.le_refl _,fun i f hf=>⟨w3.heap.size,0,rfl,?_⟩⟩
  have hi:i<2:=(List.getElem?_eq_some_iff.1 hf).1
  have:i=0∨i=1:=by omega
  rcases this with rfl | rfl
  ·obtain rfl:hlf=f:=Option.some.inj hf
   exact ⟨s,x,y,p,⟨by simp,by simp,by simp,by simp⟩,(ae HF3).but bS⟩
  ·obtain rfl:hlf=f:=Option.some.inj hf
   exact ⟨s,x,y,p,⟨by simp,by simp,by simp,by simp⟩,(ae HF3).but bS⟩
 have BS:=af ((ae B3).trans' bS)
 have FS:=af fS
 clear fS bS
 refine (ae TI _ _ (ae BS) (ae FS)).mono ?_
 rintro e w4 ⟨g,s4,x4,y4,p4,rfl,⟨r0,r1,r2,r3⟩,hf4,hb4⟩
 have B4:=af ((ae BS).trans' hb4)
 have HF4:=af hf4
 have TXH:=af (ae TX _ _ (ae B4) hf4)
 clear hb4 hf4 BS FS TI TX B3 HF3 d0 d1 d2 d3
 go_wp2_with fail
 refine (ae TXH).mono ?_
 rintro e w5 ⟨rfl,hb5⟩
 have B5:=af ((ae B4).trans' hb5)
 clear hb5 r0 r1 r2 r3
 go_wp2
 go_ret
 exact ⟨rfl,ae B5⟩
end Go.Proofs.YtlckjpelcmjimaaGreatDoor
