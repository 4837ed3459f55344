/- What compounded and Panjer find are the  -/
import Derived.Test.YtlckjpelcmjimaaGreatDoorKPKP
import Derived.Test.YtlckjpelcmjimaaGreatDoorKPZF
import Derived.Test.YtlckjpelcmjimaaGreatDoorKPZI
namespace Go.Proofs.YtlckjpelcmjimaaGreatDoor
set_option maxHeartbeats 4000000
theorem pw_congr (b c:Nat→Rat):∀ m i,(∀ k,k≤i→b k=c k)→pw b m i=pw c m i
 | 0,_,_=>rfl
 | m+1,i,h=>cv_congr i h (fun k hk=>pw_congr b c m k (fun j hj=>h j (by omega)))
theorem pw_mulr (u:Rat) (b:Nat→Rat) (m i:Nat):pw (fun k=>u*b k) m i=rpow u m*pw b m i:=by
 obtain ⟨q,hq,h⟩:=pw_mul u b m
 rw [h,rpow_is,hq]
theorem rpow_nonneg {u:Rat} (h:0≤u):∀ n,0≤rpow u n
 | 0=>by show (0:Rat)≤1;decide
 | n+1=>Rat.mul_nonneg (rpow_nonneg h n) h
theorem rpow_mul (a b:Rat):∀ n,rpow (a*b) n=rpow a n*rpow b n
 | 0=>by show (1:Rat)=1*1;grind
 | n+1=>by
  show rpow (a*b) n*(a*b)=rpow a n*a*(rpow b n*b)
  rw [rpow_mul a b n];grind
theorem rpow_one:∀ n,rpow 1 n=1
 | 0=>rfl
 | n+1=>by
  show rpow 1 n*1=1
  rw [rpow_one n];grind
theorem pw_un:∀ j,pw un j=un
 | 0=>rfl
 | j+1=>by
  show cv un (pw un j)=un
  rw [cv_unl,pw_un j]
theorem tries_sum (N:Nat) (s:Nat→Rat) (i:Nat) (no r:Rat) :
  us (fun j=>trN no r N j*pw s j i) (N+1)=no*pw (fun k=>un k+r*s k) N i:=by
 rw [← binom r s i N,← us_mul]
 refine us_congr _ (fun j _=>?_)
 rw [trN_is];grind
theorem tries_one (f:Rat) (N:Nat) (hlt:f<1):us (trN (rpow (((1:Int):Rat)-f) N) (f/(((1:Int):Rat)-f)) N) (N+1)=1:=by
 have h:=tries_sum N un 0 (rpow (((1:Int):Rat)-f) N) (f/(((1:Int):Rat)-f))
 have e1:us (fun j=>trN (rpow (((1:Int):Rat)-f) N) (f/(((1:Int):Rat)-f)) N j*pw un j 0) (N+1)=us (trN (rpow (((1:Int):Rat)-f) N) (f/(((1:Int):Rat)-f)) N) (N+1):=us_congr _ (fun j _=>by
  rw [pw_un]
  show _*(1:Rat)=_
  grind)
 rw [e1,pw_zero,← rpow_mul] at h
 rw [h]
 have hne:((1:Int):Rat)-f≠0:=by
  rw [show ((1:Int):Rat)=1 from rfl]
  grind
 have e2:(((1:Int):Rat)-f)*(un 0+f/(((1:Int):Rat)-f)*un 0)=1:=by
  show _*((1:Rat)+_*1)=1
  rw [show ((1:Int):Rat)=1 from rfl] at hne ⊢
  rw [Rat.div_def]
  have:=Rat.mul_inv_cancel _ hne
  grind
 rw [e2,rpow_one]
theorem trN_nonneg (no r:Rat) (N:Nat) (h1:0≤no) (h2:0≤r) (k:Nat):0≤trN no r N k:=by
 rw [trN_is,← rpow_is]
 exact Rat.mul_nonneg (Rat.mul_nonneg h1 (Rat.intCast_nonneg.2 (by omega))) (rpow_nonneg h2 k)
theorem foldl_us (F:Nat→Rat):∀ n,((List.range n).map F).foldl (fun s f=>s+f) 0=us F n
 | 0=>rfl
 | n+1=>by
  rw [List.range_succ,List.map_append,List.foldl_append,foldl_us F n]
  rfl
theorem tries_chk (f:Rat) (N:Nat) (hN:N≤8) (h0:0≤f) (hlt:f<1):chkE ((List.range (N+1)).map (trN (rpow (((1:Int):Rat)-f) N) (f/(((1:Int):Rat)-f)) N))=0:=by
 have hp:0<((1:Int):Rat)-f:=by
  rw [show ((1:Int):Rat)=1 from rfl]
  grind
 refine chk_make (by simp) (by simp;omega) (fun g hg=>?_) ?_
 ·obtain ⟨i,-,rfl⟩:=List.mem_map.1 hg
  refine trN_nonneg _ _ _ (rpow_nonneg (Rat.le_of_lt hp) _) ?_ i
  rw [Rat.div_def]
  exact Rat.mul_nonneg h0 (Rat.le_of_lt (Rat.inv_pos.2 hp))
 ·unfold sumR
  rw [foldl_us]
  exact tries_one f N hlt
theorem lf_short (fs:List Rat) (m:Nat) (hm:m<fs.length) (h2:∀ j,m<j→j<fs.length→(fs[j]?.getD 0).num=0) (i:Nat):lf (fs.take (m+1)) i=lf fs i:=by
 rcases Nat.lt_or_ge m i with h | h
 ·rw [lf_far _ i (by rw [List.length_take];omega)]
  rcases Nat.lt_or_ge i fs.length with h3 | h3
  ·exact (Rat.num_eq_zero.1 (h2 i h h3)).symm
  ·rw [lf_far _ i h3]
 ·unfold lf
  rw [List.getElem?_take_of_lt (by omega)]
theorem lf_ways (fs:List Rat) (i:Nat):lf (ay fs) i=(((comN 1 fs:Nat):Int):Rat)*lf fs i:=by
 rcases Nat.lt_or_ge i fs.length with h | h
 ·show lf ((List.range fs.length).map _) i=_
  rw [lf_map _ _ _ h,Rat.mul_comm]
  rfl
 ·rw [lf_far fs i h,lf_far _ i (by unfold ay;simpa using h)];grind
theorem panjered (n:Nat) (fs:List Rat) (m k:Nat) (no r:Rat) (ns:List Rat) (hns:ns=(List.range (n+1)).map (trN no r n)) (hm:m<fs.length) (h2:∀ j,m<j→j<fs.length→(fs[j]?.getD 0).num=0) (hk:k<ns.length) (n2:∀ j,k<j→j<ns.length→(ns[j]?.getD 0).num=0)
  (hU0:0<comN 1 (fs.take (m+1))) (hUN:0<comN 1 (ns.take (k+1))) (mm U:Nat) (hmm:mm=min fs.length (U+1)) (hu0:0<comN 1 (baL fs r mm)) (i:Nat) (hi:i≤U) :
  (az (ay (ns.take (k+1))) (ay (fs.take (m+1))) (((comN 1 (fs.take (m+1)):Nat):Int):Rat) k)[i]?.getD 0/(rpow (((comN 1 (fs.take (m+1)):Nat):Int):Rat) k*(((comN 1 (ns.take (k+1)):Nat):Int):Rat))=pw (lf (ay (baL fs r mm))) n i*(rpow (((comN 1 (baL fs r mm):Nat):Int):Rat)⁻¹ n*no):=by
 have hnl:ns.length=n+1:=by rw [hns];simp
 have e1:=compL_hor (lf ns) (lf fs) (ay (ns.take (k+1))) (ay (fs.take (m+1))) (((comN 1 (ns.take (k+1)):Nat):Int):Rat) (((comN 1 (fs.take (m+1)):Nat):Int):Rat) k m (by unfold ay;simp;omega) (by unfold ay;simp;omega) (fun i _=>by rw [lf_ways,lf_short ns k hk n2]) (fun i=>by rw [lf_ways,lf_short fs m hm h2]) k (Nat.le_refl _) i
 have e2:lf (az (ay (ns.take (k+1))) (ay (fs.take (m+1))) (((comN 1 (fs.take (m+1)):Nat):Int):Rat) k) i=(az (ay (ns.take (k+1))) (ay (fs.take (m+1))) (((comN 1 (fs.take (m+1)):Nat):Int):Rat) k)[i]?.getD 0:=rfl
 rw [← e2,e1]
 have uS:(((comN 1 (fs.take (m+1)):Nat):Int):Rat)≠0:=fun h=>by have:=Rat.intCast_eq_zero_iff.1 h;omega
 have uN:(((comN 1 (ns.take (k+1)):Nat):Int):Rat)≠0:=fun h=>by have:=Rat.intCast_eq_zero_iff.1 h;omega
 have uB:(((comN 1 (baL fs r mm):Nat):Int):Rat)≠0:=fun h=>by have:=Rat.intCast_eq_zero_iff.1 h;omega
 have e3:hor (lf ns) (lf fs) k k i=no*pw (fun j=>un j+r*lf fs j) n i:=by
  rw [hor_is (lf ns) (lf fs) k k (Nat.le_refl _) i,Nat.sub_self,← tries_sum n (lf fs) i no r]
  have e4:us (fun j=>lf ns (0+j)*pw (lf fs) j i) (k+1+(n-k))=us (fun j=>lf ns (0+j)*pw (lf fs) j i) (k+1):=us_more _ _ _ (fun j hj=>by
   rw [Nat.zero_add]
   have:lf ns j=0:=by
    rcases Nat.lt_or_ge j ns.length with h | h
    ·exact Rat.num_eq_zero.1 (n2 j (by omega) h)
    ·exact lf_far ns j h
   rw [this];grind)
  rw [← e4,show k+1+(n-k)=n+1 from by omega]
  refine us_congr _ (fun j hj=>?_)
  rw [Nat.zero_add,hns,lf_map _ _ _ hj]
 have e5:pw (lf (ay (baL fs r mm))) n i=rpow (((comN 1 (baL fs r mm):Nat):Int):Rat) n*pw (fun j=>un j+r*lf fs j) n i:=by
  rw [← pw_mulr]
  refine pw_congr _ _ n i (fun j hj=>?_)
  rw [lf_ways]
  congr 1
  rcases Nat.lt_or_ge j mm with h | h
  ·show lf ((List.range mm).map (baF fs r mm)) j=_
   rw [lf_map _ _ _ h]
   unfold baF setF un
   have ht:(fs.take mm)[j]?.getD 0=lf fs j:=by unfold lf;rw [List.getElem?_take_of_lt h]
   split
   ·rename_i e
    subst e
    rw [ht,show ((1:Int):Rat)=1 from rfl];grind
   ·show (fs.take mm)[j]?.getD 0*r=_
    rw [ht];grind
  ·have hl:fs.length≤j:=by omega
   rw [lf_far _ j (by unfold baL;simpa using h),lf_far fs j hl]
   unfold un
   rw [if_neg (by omega)];grind
 rw [e3,e5]
 have q1:rpow (((comN 1 (fs.take (m+1)):Nat):Int):Rat) k≠0:=fun h=>by
  have h1:=rpow_mul (((comN 1 (fs.take (m+1)):Nat):Int):Rat) (((comN 1 (fs.take (m+1)):Nat):Int):Rat)⁻¹ k
  rw [Rat.mul_inv_cancel _ uS,rpow_one,h] at h1
  grind
 have q2:rpow (((comN 1 (baL fs r mm):Nat):Int):Rat) n*rpow (((comN 1 (baL fs r mm):Nat):Int):Rat)⁻¹ n=1:=by rw [← rpow_mul,Rat.mul_inv_cancel _ uB,rpow_one]
 generalize pw (fun j=>un j+r*lf fs j) n i=X
 generalize rpow (((comN 1 (fs.take (m+1)):Nat):Int):Rat) k=A at *
 generalize (((comN 1 (ns.take (k+1)):Nat):Int):Rat)=B at *
 generalize rpow (((comN 1 (baL fs r mm):Nat):Int):Rat) n=C at *
 generalize rpow (((comN 1 (baL fs r mm):Nat):Int):Rat)⁻¹ n=D at *
 have q3:A*B≠0:=fun h=>by
  rcases Rat.mul_eq_zero.1 h with h | h
  ·exact q1 h
  ·exact uN h
 have q4:=Rat.mul_inv_cancel _ q3
 rw [Rat.div_def]
 have q5:B*A*(no*X)*(A*B)⁻¹=no*X*(A*B*(A*B)⁻¹):=by grind
 rw [q5,q4]
 have q6:C*X*(D*no)=no*X*(C*D):=by grind
 rw [q6,q2]
def isN (x:Rat) (M:Nat):Prop:=∃ z:Nat,x=((z:Int):Rat)∧z≤M
theorem isN.mono {x:Rat} {M K:Nat} (h:isN x M) (hk:M≤K):isN x K:=by
 obtain ⟨z,e,hz⟩:=h
 exact ⟨z,e,by omega⟩
theorem isN.add {x y:Rat} {M K:Nat} (h:isN x M) (k:isN y K):isN (x+y) (M+K):=by
 obtain ⟨z,rfl,hz⟩:=h
 obtain ⟨v,rfl,hv⟩:=k
 exact ⟨z+v,by rw [Int.natCast_add,Rat.intCast_add],by omega⟩
theorem isN.mul {x y:Rat} {M K:Nat} (h:isN x M) (k:isN y K):isN (x*y) (M*K):=by
 obtain ⟨z,rfl,hz⟩:=h
 obtain ⟨v,rfl,hv⟩:=k
 exact ⟨z*v,by rw [Int.natCast_mul,Rat.intCast_mul],Nat.mul_le_mul hz hv⟩
theorem isN_zero (M:Nat):isN 0 M:=⟨0,rfl,by omega⟩
theorem isN_one (M:Nat) (h:1≤M):isN 1 M:=⟨1,rfl,h⟩
theorem isN_us (F:Nat→Rat) (M:Nat):∀ n,(∀ k,k<n→isN (F k) M)→isN (us F n) (n*M)
 | 0,_=>isN_zero _
 | n+1,h=>by
  have:=(isN_us F M n (fun k hk=>h k (by omega))).add (h n (by omega))
  rw [Nat.succ_mul]
  exact this
theorem isN_cv (f g:Nat→Rat) (M G n:Nat) (hf:∀ k,k≤n→isN (f k) M) (hg:∀ k,k≤n→isN (g k) G):isN (cv f g n) ((n+1)*(M*G)):=by
 rw [cv_us]
 exact isN_us _ _ _ (fun k hk=>(hf k (by omega)).mul (hg (n-k) (by omega)))
theorem isN_len {x:Rat} {c:Nat} (h:isN x (18446744073709551616^c)):Len x (c+1):=by
 obtain ⟨z,rfl,hz⟩:=h
 obtain ⟨e1,e2⟩:=bd (z:Int)
 have h1:18446744073709551616^c < 18446744073709551616^(c+1):=Nat.pow_lt_pow_right (by omega) (by omega)
 refine ⟨?_,?_⟩
 ·rw [e1,Int.natAbs_natCast]
  exact aj (by omega) _ _ (by omega)
 ·rw [e2]
  refine aj (by omega) _ _ ?_
  exact Nat.one_lt_pow (by omega) (by omega)
theorem isN_of {x:Rat} {c:Nat} (h0:0≤x) (hz:∃ z:Int,x=((z:Int):Rat)) (hl:Len x c):isN x (18446744073709551616^c):=by
 obtain ⟨z,rfl⟩:=hz
 have hz0:0≤z:=Rat.intCast_nonneg.1 h0
 obtain ⟨e1,e2⟩:=bd z
 have h1:=ak (B:=18446744073709551616) (by omega) _ c hl.1
 rw [e1] at h1
 refine ⟨z.toNat,by rw [Int.toNat_of_nonneg hz0],by omega⟩
theorem pow_step (a c:Nat):61*(18446744073709551616^c * 18446744073709551616^a)≤18446744073709551616^(a+c+1):=by
 rw [Nat.pow_succ,Nat.pow_add,Nat.mul_comm (18446744073709551616^c),Nat.mul_comm (18446744073709551616^a * 18446744073709551616^c)]
 exact Nat.mul_le_mul_right _ (by omega)
theorem isN_pw (b:Nat→Rat) (c:Nat) (h:∀ k,k≤60→isN (b k) (18446744073709551616^c)):∀ m i,i≤60→isN (pw b m i) (18446744073709551616^(m*(c+1)))
 | 0,i,_=>by
  show isN (un i) _
  unfold un
  split
  ·exact isN_one _ (by rw [Nat.zero_mul,Nat.pow_zero];exact Nat.le_refl _)
  ·exact isN_zero _
 | m+1,i,hi=>by
  refine (isN_cv b (pw b m) (18446744073709551616^c) (18446744073709551616^(m*(c+1))) i (fun k hk=>h k (by omega)) (fun k hk=>isN_pw b c h m k (by omega))).mono ?_
  refine Nat.le_trans (Nat.mul_le_mul_right _ (show i+1≤61 by omega)) ?_
  rw [show (m+1)*(c+1)=m*(c+1)+c+1 from by rw [Nat.succ_mul];omega]
  exact pow_step _ _
theorem isN_compL (ns ss:List Rat) (u:Rat) (q a c e:Nat) (hs:ss.length=q+1) (hns:∀ k,isN (lf ns k) (18446744073709551616^a)) (hss:∀ k,isN (lf ss k) (18446744073709551616^c)) (hu:isN u (18446744073709551616^e)) (hec:e≤c) (ha:1≤a):∀ t,t*q≤60→∀ i,isN (lf (az ns ss u t) i) (18446744073709551616^(a+t*(c+1)))
 | 0,_,i=>by
  rw [Nat.zero_mul,Nat.add_zero]
  show isN (lf [ns[ns.length-1]?.getD 0] i) _
  cases i with
  | zero=>exact hns _
  | succ i=>exact isN_zero _
 | t+1,ht,i=>by
  have ht':t*q≤60:=by rw [Nat.succ_mul] at ht;omega
  have ih:=isN_compL ns ss u q a c e hs hns hss hu hec ha t ht'
  have len:=compL_len ns ss u q hs
  rcases Nat.lt_or_ge i (az ns ss u (t+1)).length with hi | hi
  ·have hi60:i≤60:=by rw [len] at hi;omega
   have hur:∀ j,isN (rpow u j) (18446744073709551616^(j*e)):=fun j=>by
    induction j with
    | zero=>rw [Nat.zero_mul];exact isN_one _ (by simp)
    | succ j ihj =>
     rw [Nat.succ_mul,Nat.pow_add]
     exact ihj.mul hu
   have hcv:=isN_cv (lf (az ns ss u t)) (lf ss) (18446744073709551616^(a+t*(c+1))) (18446744073709551616^c) i (fun k _=>ih k) (fun k _=>hss k)
   have hcv':isN (cv (lf (az ns ss u t)) (lf ss) i) (61*(18446744073709551616^c * 18446744073709551616^(a+t*(c+1)))):=hcv.mono (by
    rw [Nat.mul_comm (18446744073709551616^c)]
    exact Nat.mul_le_mul_right _ (by omega))
   have hi':=hi
   rw [len,Nat.succ_mul] at hi'
   have e0:lf (az ns ss u (t+1)) i=setF (convI (az ns ss u t) ss (az ns ss u t).length) 0 (convI (az ns ss u t) ss (az ns ss u t).length 0+ns[ns.length-1-(t+1)]?.getD 0*rpow u (t+1)) i:=by
    show lf ((List.range _).map _) i=_
    rw [lf_map _ _ _ (by rw [len t,hs];omega)]
   rw [e0]
   unfold setF
   have hb1:18446744073709551616^a * 18446744073709551616^((t+1)*e)≤18446744073709551616^c * 18446744073709551616^(a+t*(c+1)):=by
    rw [← Nat.pow_add,← Nat.pow_add]
    refine Nat.pow_le_pow_right (by omega) ?_
    have:(t+1)*e≤(t+1)*c:=Nat.mul_le_mul_left _ hec
    have h3:(t+1)*c=t*c+c:=Nat.succ_mul t c
    have h4:t*(c+1)=t*c+t:=Nat.mul_succ t c
    omega
   have hfin:61*(18446744073709551616^c * 18446744073709551616^(a+t*(c+1))) + 18446744073709551616^c * 18446744073709551616^(a+t*(c+1))≤18446744073709551616^(a+(t+1)*(c+1)):=by
    rw [show a+(t+1)*(c+1)=a+t*(c+1)+c+1 from by rw [Nat.succ_mul];omega,Nat.pow_succ,Nat.pow_add _ (a+t*(c+1)),Nat.mul_comm (18446744073709551616^c)]
    generalize 18446744073709551616^(a+t*(c+1)) * 18446744073709551616^c=P
    omega
   split
   ·rename_i h0
    subst h0
    rw [convI_cv]
    exact (hcv'.add (((hns _).mul (hur (t+1))).mono hb1)).mono hfin
   ·rw [convI_cv]
    exact hcv'.mono (by omega)
  ·rw [lf_far _ _ hi]
   exact isN_zero _
theorem ways_all (xs:List Rat) (c L:Nat) (hp:∀ g ∈ xs,0≤g) (lx:∀ g ∈ xs,Len g c) (hl:xs.length≤L) :
  0<comN 1 xs∧Len (((comN 1 xs:Nat):Int):Rat) (1+L*c)∧(∀ g ∈ ay xs,Len g (c+(1+L*c)))∧(∀ k,isN (lf (ay xs) k) (18446744073709551616^(c+(1+L*c))))∧isN (((comN 1 xs:Nat):Int):Rat) (18446744073709551616^(1+L*c)):=by
 have h1:=comN_len c xs 1 lx
 have h2:(wd 18446744073709551616 1).length≤1:=aj (by omega) 1 1 (by omega)
 have h3:xs.length*c≤L*c:=Nat.mul_le_mul_right c hl
 have hU:Len (((comN 1 xs:Nat):Int):Rat) (1+L*c):=by
  obtain ⟨e1,e2⟩:=bd ((comN 1 xs:Nat):Int)
  refine ⟨by rw [e1,Int.natAbs_natCast];omega,by rw [e2];omega⟩
 have hpos:=com_pos xs 1 (by omega)
 have hmem:∀ k,k<xs.length→Len (xs[k]?.getD 0*(((comN 1 xs:Nat):Int):Rat)) (c+(1+L*c)):=fun k hk=>by
  rw [List.getElem?_eq_getElem hk]
  exact len_mul (lx _ (List.getElem_mem hk)) hU _ (Nat.le_refl _)
 refine ⟨hpos,hU,fun g hg=>?_,fun k=>?_,?_⟩
 ·unfold ay at hg
  obtain ⟨k,hk,rfl⟩:=List.mem_map.1 hg
  exact hmem k (List.mem_range.1 hk)
 ·rcases Nat.lt_or_ge k xs.length with hk | hk
  ·have e:lf (ay xs) k=xs[k]?.getD 0*(((comN 1 xs:Nat):Int):Rat):=by
    unfold ay
    rw [lf_map _ _ _ hk]
   rw [e]
   refine isN_of ?_ ?_ (hmem k hk)
   ·rw [List.getElem?_eq_getElem hk]
    exact Rat.mul_nonneg (hp _ (List.getElem_mem hk)) (Rat.intCast_nonneg.2 (by omega))
   ·rw [List.getElem?_eq_getElem hk]
    exact com_whole xs 1 _ (List.getElem_mem hk)
  ·rw [lf_far _ k (by unfold ay;simpa using hk)]
   exact isN_zero _
 ·exact isN_of (Rat.intCast_nonneg.2 (by omega)) ⟨_,rfl⟩ hU
theorem len_rest {f:Rat} (lf1:Len f 1) (h0:0≤f) (hlt:f<1):Len (((1:Int):Rat)-f) 1:=by
 have hd:=den_times f
 have hdp:=den_pos f
 obtain ⟨q,hq⟩:∃ q,q=((1:Int):Rat)-f:=⟨_,rfl⟩
 rw [← hq]
 have hqd:=den_times q
 have e1:q*((f.den:Int):Rat)=((((f.den:Int)-f.num:Int)):Rat):=by
  rw [hq,Rat.intCast_sub,← hd,show ((1:Int):Rat)=1 from rfl];grind
 have e2:q.num*(f.den:Int)=((f.den:Int)-f.num)*(q.den:Int):=by
  have h3:((q.num*(f.den:Int):Int):Rat)=((((f.den:Int)-f.num)*(q.den:Int):Int):Rat):=by
   rw [Rat.intCast_mul,Rat.intCast_mul,← e1,← hqd];grind
  exact Rat.intCast_inj.1 h3
 have hn0:0≤f.num:=Rat.num_nonneg.2 h0
 have hnl:f.num<(f.den:Int):=by
  have:=Rat.lt_iff f 1
  have h4:=this.1 hlt
  simpa using h4
 have hc:((f.den:Int)-f.num).natAbs.Coprime f.den:=by
  have hr:=f.reduced
  have e3:((f.den:Int)-f.num).natAbs=f.den-f.num.natAbs:=by omega
  rw [e3]
  have h5:f.num.natAbs≤f.den:=by omega
  have h6:Nat.gcd (f.den-f.num.natAbs) f.den ∣ f.num.natAbs:=by
   have d1:=Nat.gcd_dvd_left (f.den-f.num.natAbs) f.den
   have d2:=Nat.gcd_dvd_right (f.den-f.num.natAbs) f.den
   have:=Nat.dvd_sub d2 d1
   rw [show f.den-(f.den-f.num.natAbs)=f.num.natAbs from by omega] at this
   exact this
  have h7:=Nat.dvd_gcd h6 (Nat.gcd_dvd_right (f.den-f.num.natAbs) f.den)
  rw [hr] at h7
  exact Nat.dvd_one.1 h7
 obtain ⟨g1,g2⟩:=rat_of_coprime ((f.den:Int)-f.num) f.den (by omega) hc q e2
 have l2:=ak (B:=18446744073709551616) (by omega) _ 1 lf1.2
 refine ⟨?_,by rw [g2];exact lf1.2⟩
 rw [g1]
 exact aj (by omega) _ 1 (by omega)
theorem len_ratio {f:Rat} (lf1:Len f 1) (h0:0≤f) (hlt:f<1):Len (f/(((1:Int):Rat)-f)) 2 :=
 len_div lf1 (len_rest lf1 h0 hlt) (fun h=>by
  have h1:=Rat.num_eq_zero.1 h
  rw [show ((1:Int):Rat)=1 from rfl] at h1
  grind) _ (by omega)
theorem ratio_nonneg {f:Rat} (h0:0≤f) (hlt:f<1):0≤f/(((1:Int):Rat)-f):=by
 have hp:0<((1:Int):Rat)-f:=by
  rw [show ((1:Int):Rat)=1 from rfl]
  grind
 rw [Rat.div_def]
 exact Rat.mul_nonneg h0 (Rat.le_of_lt (Rat.inv_pos.2 hp))
theorem len_trN2 (no r:Rat) (N:Nat) (hN:N≤8) (ln:Len no 8) (lr:Len r 2):∀ k,k≤9→Len (trN no r N k) (8+k*3)
 | 0,_=>ln.mono (by omega)
 | k+1,hk=>by
  obtain ⟨g,-,-,-,l,e,-⟩:=fracOf_at ((N:Int)-(k:Int)) ((k:Int)+1) (by omega) (by omega) (by omega) (by omega) (by omega)
  have hs:Len (r*(((((N:Int)-(k:Int)):Int):Rat)/((((k:Int)+1):Int):Rat))) 3:=by
   rw [← of_parts g _ _ (by omega) e]
   exact len_mul lr l _ (by omega)
  exact len_mul (len_trN2 no r N hN ln lr k (by omega)) hs _ (by omega)
structure PanF (fs ns:List Rat) (no r:Rat) (n k m U mm:Nat):Prop where
 hk:k<ns.length
 n1:(ns[k]?.getD 0).num≠0
 n2:∀ j,k<j→j<ns.length→(ns[j]?.getD 0).num=0
 hm:m<fs.length
 h1:(fs[m]?.getD 0).num≠0
 h2:∀ j,m<j→j<fs.length→(fs[j]?.getD 0).num=0
 hU:U=k*m
 hU60:U≤60
 hmm:mm=min fs.length (U+1)
 hU0:0<comN 1 (fs.take (m+1))
 hUN:0<comN 1 (ns.take (k+1))
 hUl:Len (((comN 1 (fs.take (m+1)):Nat):Int):Rat) 1000
 hUNl:Len (((comN 1 (ns.take (k+1)):Nat):Int):Rat) 1000
 hws:∀ g ∈ ay (fs.take (m+1)),Len g 500
 hwn:∀ g ∈ ay (ns.take (k+1)),Len g 500
 hl:∀ t,t<k+1→(az (ay (ns.take (k+1))) (ay (fs.take (m+1))) (((comN 1 (fs.take (m+1)):Nat):Int):Rat) t).length≤300∧(∀ g ∈ az (ay (ns.take (k+1))) (ay (fs.take (m+1))) (((comN 1 (fs.take (m+1)):Nat):Int):Rat) t,Len g 500)∧Len (rpow (((comN 1 (fs.take (m+1)):Nat):Int):Rat) t) 1000
 len:(az (ay (ns.take (k+1))) (ay (fs.take (m+1))) (((comN 1 (fs.take (m+1)):Nat):Int):Rat) k).length=U+1
 hb0:lf (ay (baL fs r mm)) 0≠0
 hu0:0<comN 1 (baL fs r mm)
 lbl:∀ g ∈ baL fs r mm,Len g 8
 lwl:∀ g ∈ ay (baL fs r mm),Len g 100
 lu:Len (((comN 1 (baL fs r mm):Nat):Int):Rat) 100
 lp:∀ i,i≤U→Len (pw (lf (ay (baL fs r mm))) n i) 1000
 same:∀ i,i≤U→(az (ay (ns.take (k+1))) (ay (fs.take (m+1))) (((comN 1 (fs.take (m+1)):Nat):Int):Rat) k)[i]?.getD 0/(rpow (((comN 1 (fs.take (m+1)):Nat):Int):Rat) k*(((comN 1 (ns.take (k+1)):Nat):Int):Rat))=pw (lf (ay (baL fs r mm))) n i*(rpow (((comN 1 (baL fs r mm):Nat):Int):Rat)⁻¹ n*no)
 lenE:∀ i,i≤U→Len (pw (lf (ay (baL fs r mm))) n i*(rpow (((comN 1 (baL fs r mm):Nat):Int):Rat)⁻¹ n*no)) 1000000
theorem panF_all (f:Rat) (n:Nat) (fs:List Rat) (lq:Len f 1) (hn8:n≤8) (h0:0≤f) (hlt:f<1) (hcs:chkE fs=0) (lfs:∀ g ∈ fs,Len g 1) (hl8:fs.length≤8) (no r:Rat) (ns:List Rat) (hno:no=rpow (((1:Int):Rat)-f) n) (hr:r=f/(((1:Int):Rat)-f)) (hns:ns=(List.range (n+1)).map (trN no r n)) :
  ∃ k m U mm,PanF fs ns no r n k m U mm:=by
 have hcn:chkE ns=0:=by
  rw [hns,hno,hr]
  exact tries_chk f n hn8 h0 hlt
 have hnl:ns.length=n+1:=by rw [hns];simp
 have lno:Len no 8:=by rw [hno];exact len_rpow8 (len_rest lq h0 hlt) hn8 (by omega)
 have lra:Len r 2:=by rw [hr];exact len_ratio lq h0 hlt
 have hr0:0≤r:=by rw [hr];exact ratio_nonneg h0 hlt
 have lns:∀ g ∈ ns,Len g 32:=fun g hg=>by
  rw [hns] at hg
  obtain ⟨i,hi,rfl⟩:=List.mem_map.1 hg
  have hi':=List.mem_range.1 hi
  exact (len_trN2 _ _ n hn8 lno lra i (by omega)).mono (by omega)
 obtain ⟨m,hm,h1,h2⟩:=greatest_is hcs
 obtain ⟨k,hk,n1,n2⟩:=greatest_is hcn
 obtain ⟨-,-,fp,-⟩:=chk_some hcs
 obtain ⟨-,-,np,-⟩:=chk_some hcn
 obtain ⟨U,hU⟩:∃ U,U=k*m:=⟨_,rfl⟩
 have hU60:U≤60:=by
  have:=Nat.mul_le_mul (show k≤8 by omega) (show m≤7 by omega)
  omega
 obtain ⟨mm,hmm⟩:∃ mm,mm=min fs.length (U+1):=⟨_,rfl⟩
 have tl:(fs.take (m+1)).length=m+1:=by rw [List.length_take];omega
 have tn:(ns.take (k+1)).length=k+1:=by rw [List.length_take];omega
 obtain ⟨a1,a2,a3,a4,a5⟩:=ways_all (fs.take (m+1)) 1 8 (fun g hg=>fp g (List.mem_of_mem_take hg)) (fun g hg=>lfs g (List.mem_of_mem_take hg)) (by omega)
 obtain ⟨b1,b2,b3,b4,b5⟩:=ways_all (ns.take (k+1)) 32 9 (fun g hg=>np g (List.mem_of_mem_take hg)) (fun g hg=>lns g (List.mem_of_mem_take hg)) (by omega)
 have wl:(ay (fs.take (m+1))).length=m+1:=by unfold ay;simp;omega
 have clen:=compL_len (ay (ns.take (k+1))) (ay (fs.take (m+1))) (((comN 1 (fs.take (m+1)):Nat):Int):Rat) m wl
 have cent:=isN_compL (ay (ns.take (k+1))) (ay (fs.take (m+1))) (((comN 1 (fs.take (m+1)):Nat):Int):Rat) m (32+(1+9*32)) (1+(1+8*1)) (1+8*1) wl b4 a4 a5 (by omega) (by omega)
 have bp:∀ g ∈ baL fs r mm,0≤g∧Len g 5:=fun g hg=>by
  unfold baL at hg
  obtain ⟨i,hi,rfl⟩:=List.mem_map.1 hg
  have hi':=List.mem_range.1 hi
  have hpi:0≤(fs.take mm)[i]?.getD 0*r∧Len ((fs.take mm)[i]?.getD 0*r) 3:=by
   have hil:i<(fs.take mm).length:=by rw [List.length_take];omega
   rw [List.getElem?_eq_getElem hil]
   exact ⟨Rat.mul_nonneg (fp _ (List.mem_of_mem_take (List.getElem_mem hil))) hr0,len_mul (lfs _ (List.mem_of_mem_take (List.getElem_mem hil))) lra _ (by omega)⟩
  have l1:Len (((1:Int):Rat)) 1:=len_int 1 (by decide)
  unfold baF setF
  split
  ·rename_i e
   subst e
   refine ⟨?_,len_add hpi.2 l1 _ (by omega)⟩
   have:=hpi.1
   rw [show ((1:Int):Rat)=1 from rfl]
   grind
  ·exact ⟨hpi.1,hpi.2.mono (by omega)⟩
 have bll:(baL fs r mm).length=mm:=by unfold baL;simp
 obtain ⟨c1,c2,c3,c4,-⟩:=ways_all (baL fs r mm) 5 8 (fun g hg=>(bp g hg).1) (fun g hg=>(bp g hg).2) (by omega)
 have hpw:=isN_pw (lf (ay (baL fs r mm))) (5+(1+8*5)) (fun j _=>c4 j) n
 have lp:∀ i,i≤U→Len (pw (lf (ay (baL fs r mm))) n i) 1000:=fun i hi=>(isN_len (hpw i (by omega))).mono (by
  have:=Nat.mul_le_mul_right 47 hn8
  omega)
 have hb0:lf (ay (baL fs r mm)) 0≠0:=by
  rw [lf_ways]
  intro h
  rcases Rat.mul_eq_zero.1 h with h | h
  ·have:=Rat.intCast_eq_zero_iff.1 h
   omega
  ·have e:lf (baL fs r mm) 0=(fs.take mm)[0]?.getD 0*r+((1:Int):Rat):=by
    unfold baL
    rw [lf_map _ _ _ (by omega)]
    rfl
   rw [e,show ((1:Int):Rat)=1 from rfl] at h
   have hil:0<(fs.take mm).length:=by rw [List.length_take];omega
   rw [List.getElem?_eq_getElem hil] at h
   have:0≤(fs.take mm)[0] * r:=Rat.mul_nonneg (fp _ (List.mem_of_mem_take (List.getElem_mem hil))) hr0
   simp only [Option.getD_some] at h
   grind
 have hl:∀ t,t<k+1→(az (ay (ns.take (k+1))) (ay (fs.take (m+1))) (((comN 1 (fs.take (m+1)):Nat):Int):Rat) t).length≤300∧(∀ g ∈ az (ay (ns.take (k+1))) (ay (fs.take (m+1))) (((comN 1 (fs.take (m+1)):Nat):Int):Rat) t,Len g 500)∧Len (rpow (((comN 1 (fs.take (m+1)):Nat):Int):Rat) t) 1000:=fun t ht=>by
  have htm:t*m≤k*m:=Nat.mul_le_mul_right m (by omega)
  refine ⟨by rw [clen];omega,fun g hg=>?_,(len_rpow8 a2 (by omega) (by omega)).mono (by omega)⟩
  obtain ⟨i,hi,rfl⟩:=List.getElem_of_mem hg
  have hc:=cent t (by omega) i
  unfold lf at hc
  rw [List.getElem?_eq_getElem hi] at hc
  exact (isN_len hc).mono (by omega)
 refine ⟨k,m,U,mm,⟨hk,n1,n2,hm,h1,h2,hU,hU60,hmm,a1,b1,a2.mono (by omega),b2.mono (by omega),fun g hg=>(a3 g hg).mono (by omega),fun g hg=>(b3 g hg).mono (by omega),hl,by rw [clen,hU],hb0,c1,fun g hg=>((bp g hg).2).mono (by omega),fun g hg=>(c3 g hg).mono (by omega),c2.mono (by omega),lp,fun i hi=>panjered n fs m k no r ns hns hm h2 hk n2 a1 b1 mm U hmm c1 i hi,fun i hi=>?_⟩⟩
 refine len_mul (lp i hi) (len_mul (len_rpow8 (len_inv c2 (by rw [(bd _).1];omega)) hn8 (by omega)) lno 1000 (by omega)) _ (by omega)
end Go.Proofs.YtlckjpelcmjimaaGreatDoor
