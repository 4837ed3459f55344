/- Two rows together, plain.  -/
import Derived.Test.YtpmjeclpkahkmaaGreatDoorVKJ
import Derived.Test.YtpmjeclpkahkmaaGreatDoorVPJ
import Derived.Test.YtpmjeclpkahkmaaGreatDoorVRLs
namespace Go.Proofs.YtpmjeclpkahkmaaGreatDoor
open Go.Proofs.Tryz
open Go.RowKit
set_option maxHeartbeats 16000000
set_option maxRecDepth 100000
set_option linter.unusedVariables false
theorem zyu (F:Nat→Rat) (M:Nat):∀ n,(∀ k,k<n→isN (F k) M)→isN (us F n) (n*M)
 | 0,_=>zah _
 | n+1,h=>by
  have:=(zyu F M n (fun k hk=>h k (by omega))).add (h n (by omega))
  rw[Nat.succ_mul]
  exact this
theorem qiz (f g:Nat→Rat) (M G n:Nat) (hf:∀ k,k≤n→isN (f k) M) (hg:∀ k,k≤n→isN (g k) G):isN (cv f g n) ((n+1)*(M*G)):=by
 rw[zbr]
 exact zyu _ _ _ (fun k hk=>(hf k (by omega)).mul (hg (n-k) (by omega)))
theorem zhj (ns ss:List Rat) (u:Rat) (q a c e:Nat) (hs:ss.length=q+1) (hns:∀ k,isN (lf ns k) (18446744073709551616^a)) (hss:∀ k,isN (lf ss k) (18446744073709551616^c)) (hu:isN u (18446744073709551616^e)) (hec:e≤c) (ha:1≤a):∀ t,t*q≤300→∀ i,isN (lf (bi ns ss u t) i) (18446744073709551616^(a+t*(c+1)))
 | 0,_,i=>by
  rw[Nat.zero_mul,Nat.add_zero]
  show isN (lf [ns[ns.length-1]?.getD 0] i) _
  cases i with
  | zero=>exact hns _
  | succ i=>exact zah _
 | t+1,ht,i=>by
  have ht':t*q≤300:=by rw[Nat.succ_mul] at ht;omega
  have ih:=zhj ns ss u q a c e hs hns hss hu hec ha t ht'
  have len:=zee ns ss u q hs
  rcases Nat.lt_or_ge i (bi ns ss u (t+1)).length with hi | hi
  ·have hiW:i≤300:=by rw[len] at hi;omega
   have hur:∀ j,isN (qy u j) (18446744073709551616^(j*e)):=fun j=>by
    induction j with
    | zero=>rw[Nat.zero_mul];exact zdl _ (by simp)
    | succ j ihj =>
     rw[Nat.succ_mul,Nat.pow_add]
     exact ihj.mul hu
   have hcv:=qiz (lf (bi ns ss u t)) (lf ss) (18446744073709551616^(a+t*(c+1))) (18446744073709551616^c) i (fun k _=>ih k) (fun k _=>hss k)
   have hcv':isN (cv (lf (bi ns ss u t)) (lf ss) i) (301*(18446744073709551616^c * 18446744073709551616^(a+t*(c+1)))):=hcv.mono (by
    rw[Nat.mul_comm (18446744073709551616^c)]
    exact Nat.mul_le_mul_right _ (by omega))
   have hi':=hi
   rw[len,Nat.succ_mul] at hi'
   have e0:lf (bi ns ss u (t+1)) i=zda (yg (bi ns ss u t) ss (bi ns ss u t).length) 0 (yg (bi ns ss u t) ss (bi ns ss u t).length 0+ns[ns.length-1-(t+1)]?.getD 0*qy u (t+1)) i:=by
    show lf ((List.range _).map _) i=_
    rw[zfw _ _ _ (by rw[len t,hs];omega)]
   rw[e0]
   unfold zda
   have hb1:18446744073709551616^a * 18446744073709551616^((t+1)*e)≤18446744073709551616^c * 18446744073709551616^(a+t*(c+1)):=by
    rw[← Nat.pow_add,← Nat.pow_add]
    refine Nat.pow_le_pow_right (by omega) ?_
    have:(t+1)*e≤(t+1)*c:=Nat.mul_le_mul_left _ hec
    have h3:(t+1)*c=t*c+c:=Nat.succ_mul t c
    have h4:t*(c+1)=t*c+t:=Nat.mul_succ t c
    omega
   have hfin:301*(18446744073709551616^c * 18446744073709551616^(a+t*(c+1))) + 18446744073709551616^c * 18446744073709551616^(a+t*(c+1))≤18446744073709551616^(a+(t+1)*(c+1)):=by
    rw[show a+(t+1)*(c+1)=a+t*(c+1)+c+1 from by rw[Nat.succ_mul];omega,Nat.pow_succ,Nat.pow_add _ (a+t*(c+1)),Nat.mul_comm (18446744073709551616^c)]
    generalize 18446744073709551616^(a+t*(c+1)) * 18446744073709551616^c=P
    omega
   split
   ·rename_i h0
    subst h0
    rw[zct]
    exact (hcv'.add (((hns _).mul (hur (t+1))).mono hb1)).mono hfin
   ·rw[zct]
    exact hcv'.mono (by omega)
  ·rw[ru _ _ hi]
   exact zah _
theorem zcb (xs:List Rat) (c L:Nat) (hp:∀ g ∈ xs,0≤g) (lx:∀ g ∈ xs,Len g c) (hl:xs.length≤L) :
  0<qh 1 xs∧Len (((qh 1 xs:Nat):Int):Rat) (1+L*c)∧(∀ g ∈ bh xs,Len g (c+(1+L*c)))∧(∀ k,isN (lf (bh xs) k) (18446744073709551616^(c+(1+L*c))))∧isN (((qh 1 xs:Nat):Int):Rat) (18446744073709551616^(1+L*c)):=by(
have h1:=zjf c xs 1 lx
have h2:(wd 18446744073709551616 1).length≤1:=aj (by omega) 1 1 (by omega)
have h3:xs.length*c≤L*c:=Nat.mul_le_mul_right c hl
have hU:Len (((qh 1 xs:Nat):Int):Rat) (1+L*c):=by
 obtain⟨e1,e2⟩:=bk ((qh 1 xs:Nat):Int)
 refine⟨by rw[e1,Int.natAbs_natCast];omega,by rw[e2];omega⟩
have hpos:=zze xs 1 (by omega)
have hmem:∀ k,k<xs.length→Len (xs[k]?.getD 0*(((qh 1 xs:Nat):Int):Rat)) (c+(1+L*c)):=fun k hk=>by
 rw[List.getElem?_eq_getElem hk]
 exact zbv (lx _ (List.getElem_mem hk)) hU _ (Nat.le_refl _)
refine⟨hpos,hU,fun g hg=>?_,fun k=>?_,?_⟩
·unfold bh at hg
 obtain⟨k,hk,rfl⟩:=List.mem_map.1 hg
 exact hmem k (List.mem_range.1 hk)
·(
rcases Nat.lt_or_ge k xs.length with hk | hk
·(
have e:lf (bh xs) k=xs[k]?.getD 0*(((qh 1 xs:Nat):Int):Rat):=by
 unfold bh
 rw[zfw _ _ _ hk]
rw[e]
refine qgc ?_ ?_ (hmem k hk)
·rw[List.getElem?_eq_getElem hk]
 exact Rat.mul_nonneg (hp _ (List.getElem_mem hk)) (Rat.intCast_nonneg.2 (by omega))
·rw[List.getElem?_eq_getElem hk]
 exact zqh xs 1 _ (List.getElem_mem hk))
·rw[ru _ k (by unfold bh;simpa using hk)]
 exact zah _)
·exact qgc (Rat.intCast_nonneg.2 (by omega)) ⟨_,rfl⟩ hU)
theorem zue {f D:Rat} {a b:Nat} (h:isN (f*D) (18446744073709551616^a)) (hD:isN D (18446744073709551616^b)) (h0:D≠0):jc f (2*(a+1)+2*(b+1)):=by(
have e:f=f*D/D:=(Rat.mul_div_cancel h0).symm
rw[e]
exact (ziq (zes h)).qnx (ziq (zes hD)) (fun h=>h0 (Rat.num_eq_zero.1 h)))
def tgP (f g:Nat→Rat) (nb s:Nat):Nat→Rat:=fun x=>us (fun j=>if j≤s∧s-j<nb then f j*g (s-j) else 0) x
theorem zxz (f g:Nat→Rat) (nb s x:Nat) (h:x≤s∧s-x<nb):tgP f g nb s (x+1)=tgP f g nb s x+f x*g (s-x):=by
 show us _ x+(if x≤s∧s-x<nb then f x*g (s-x) else 0)=_
 rw[if_pos h];rfl
theorem qcv (f g:Nat→Rat) (nb s x:Nat) (h:¬ (x≤s∧s-x<nb)):tgP f g nb s (x+1)=tgP f g nb s x:=by(
show us _ x+(if x≤s∧s-x<nb then f x*g (s-x) else 0)=_
rw[if_neg h]
show us _ x+0=us _ x
grind)
theorem qcw (f g:Nat→Rat) (na nb s:Nat) (hf:∀ k,na≤k→f k=0) (hg:∀ k,nb≤k→g k=0):tgP f g nb s na=cv f g s:=by(
obtain⟨h,hh⟩:∃ h:Nat→Rat,h=fun j=>if j≤s∧s-j<nb then f j*g (s-j) else 0:=⟨_,rfl⟩
have e0:tgP f g nb s na=us h na:=by rw[hh];rfl
have h1:∀ k,na≤k→h k=0:=fun k hk=>by
 rw[hh]
 show (if k≤s∧s-k<nb then f k*g (s-k) else 0)=0
 rw[hf k hk]
 split
 ·grind
 ·rfl
have h2:∀ k,s+1≤k→h k=0:=fun k hk=>by
 rw[hh]
 show (if k≤s∧s-k<nb then f k*g (s-k) else 0)=0
 rw[if_neg (by omega)]
have m1:=zhp h na (s+1) h1
have m2:=zhp h (s+1) na h2
rw[show s+1+na=na+(s+1) by omega,m1] at m2
rw[e0,m2,zbr]
refine l9 _ (fun k hk=>?_)
rw[hh]
show (if k≤s∧s-k<nb then f k*g (s-k) else 0)=_
by_cases hb:s-k<nb
·rw[if_pos ⟨by omega,hb⟩]
·rw[if_neg (fun h=>hb h.2),hg _ (by omega)]
 grind)
theorem zya (f g:Nat→Rat) (D E:Rat) (a c nb s:Nat) (hf:∀ k,isN (f k*D) (18446744073709551616^a)) (hg:∀ k,isN (g k*E) (18446744073709551616^c)):∀ x,isN (tgP f g nb s x*(D*E)) (x*(18446744073709551616^a * 18446744073709551616^c))
 | 0=>by
  have e:tgP f g nb s 0*(D*E)=0:=by show (0:Rat)*_=0;grind
  rw[e]
  exact zah _
 | x+1=>by
  have ih:=zya f g D E a c nb s hf hg x
  rw[Nat.succ_mul]
  by_cases h:x≤s∧s-x<nb
  ·rw[zxz f g nb s x h]
   have e:(tgP f g nb s x+f x*g (s-x))*(D*E)=tgP f g nb s x*(D*E)+f x*D*(g (s-x)*E):=by grind
   rw[e]
   exact ih.add ((hf x).mul (hg _))
  ·rw[qcv f g nb s x h]
   exact ih.mono (by omega)
theorem zyb (f g:Nat→Rat) (D E:Rat) (a c nb s x:Nat) (hf:∀ k,isN (f k*D) (18446744073709551616^a)) (hg:∀ k,isN (g k*E) (18446744073709551616^c)) (hx:x≤1000):isN (tgP f g nb s x*(D*E)) (18446744073709551616^(a+c+1)):=by(
refine (zya f g D E a c nb s hf hg x).mono ?_
rw[Nat.pow_succ,Nat.pow_add,Nat.mul_comm]
exact Nat.mul_le_mul_left _ (by omega))
structure Over (f:Nat→Rat) (D:Rat) (a d:Nat):Prop where
 all:∀ k,isN (f k*D) (18446744073709551616^a)
 low:isN D (18446744073709551616^d)
 pos:0<D
theorem Over.len {f:Nat→Rat} {D:Rat} {a d:Nat} (h:Over f D a d) (k:Nat):jc (f k) (2*(a+1)+2*(d+1)):=zue (h.all k) h.low (by have:=h.pos;grind)
theorem Over.prod {f g:Nat→Rat} {D E:Rat} {a c d e:Nat} (h:Over f D a d) (k:Over g E c e) (na:Nat) (hna:na≤1000) (hf:∀ k,na≤k→f k=0) (nb:Nat) (hg:∀ k,nb≤k→g k=0):Over (cv f g) (D*E) (a+c+1) (d+e) :=
 ⟨fun s=>by
  rw[← qcw f g na nb s hf hg]
  exact zyb f g D E a c nb s na h.all k.all hna,by rw[Nat.pow_add];exact h.low.mul k.low,Rat.mul_pos h.pos k.pos⟩
structure Top (f:Nat→Rat) (n m:Nat):Prop where
 lt:m<n
 here:m=0∨(f m).num≠0
 far:∀ j,m<j→f j=0
theorem o9 (va vb:Value) (fs gs:List Rat) (m1 m2 a c d e:Nat) (D E:Rat) (w:World) (ha:za w va fs) (na:fs.length≤300) (ta:Top (lf fs) fs.length m1) (oa:Over (lf fs) D a d) (hb:za w vb gs) (nb:gs.length≤300) (tb:Top (lf gs) gs.length m2) (ob:Over (lf gs) E c e) (hl:a+c+d+e≤10000) :
  Calls prog 21 #[va,vb] w fun e w'=>∃ v',e=.returned v'∧za w' v' ((List.range (m1+m2+1)).map (cv (lf fs) (lf gs)))∧But [] w w':=by(
have lfs:∀ (xs:List Rat) i,i<xs.length→xs[i]? = some (lf xs i):=fun xs i hi=>by
 unfold lf
 rw[List.getElem?_eq_getElem hi];rfl
have T1:=af (fun W (hb:But [] w W)=>wu va fs (lf fs) m1 W (ha.but hb) (lfs fs) (by omega) (fun i _=>(oa.len i).mono (by omega)) ta.lt ta.here (fun j h _=>by rw[ta.far j h];rfl))
have T2:=af (fun W (h:But [] w W)=>wu vb gs (lf gs) m2 W (hb.but h) (lfs gs) (by omega) (fun i _=>(ob.len i).mono (by omega)) tb.lt tb.here (fun j h _=>by rw[tb.far j h];rfl))
obtain⟨f,hf⟩:∃ f,f=lf fs:=⟨_,rfl⟩
obtain⟨g,hg⟩:∃ g,g=lf gs:=⟨_,rfl⟩
have tk1:∀ i,i<(fs.take (m1+1)).length→(fs.take (m1+1))[i]? = some (f i):=fun i hi=>by
 rw[List.length_take] at hi
 rw[List.getElem?_take,if_pos (by omega),hf]
 exact lfs fs i (by omega)
have tk2:∀ i,i<(gs.take (m2+1)).length→(gs.take (m2+1))[i]? = some (g i):=fun i hi=>by
 rw[List.length_take] at hi
 rw[List.getElem?_take,if_pos (by omega),hg]
 exact lfs gs i (by omega)
have k1:(fs.take (m1+1)).length=m1+1:=by rw[List.length_take];have:=ta.lt;omega
have k2:(gs.take (m2+1)).length=m2+1:=by rw[List.length_take];have:=tb.lt;omega
have RC1:=af (fun W v (h:za W v (fs.take (m1+1)))=>zck h tk1)
have RC2:=af (fun W v (h:za W v (gs.take (m2+1)))=>zck h tk2)
rw[k1] at RC1
rw[k2] at RC2
obtain⟨n1,hn1⟩:∃ n,n=m1+1:=⟨_,rfl⟩
obtain⟨n2,hn2⟩:∃ n,n=m2+1:=⟨_,rfl⟩
obtain⟨N,hN⟩:∃ N,N=m1+m2+1:=⟨_,rfl⟩
have z1:=ta.lt
have z2:=tb.lt
have CV:Hid (∀ s,tgP f g n2 s n1=cv f g s):=fun s=>qcw f g n1 n2 s (fun k hk=>by rw[hf];exact ta.far k (by omega)) (fun k hk=>by rw[hg];exact tb.far k (by omega))
have lP:∀ s x,x≤1000→jc (tgP f g n2 s x) 1000000:=fun s x hx=>by
 have hDE:isN (D*E) (18446744073709551616^(d+e)):=by rw[Nat.pow_add];exact oa.low.mul ob.low
 have:=zue (zyb f g D E a c n2 s x (by rw[hf];exact oa.all) (by rw[hg];exact ob.all) hx) hDE (by have:=Rat.mul_pos oa.pos ob.pos;grind)
 exact this.mono (by omega)
have lF:∀ x,jc (f x) 1000000:=fun x=>by rw[hf];exact (oa.len x).mono (by omega)
have lG:∀ x,jc (g x) 1000000:=fun x=>by rw[hg];exact (ob.len x).mono (by omega)
have MU:=af (fun (x y:Nat) (W:World) (p q:Nat) (h1:zo W p (f x)) (h2:zo W q (g y))=>qio p q _ _ W h1 h2 ((lF x).mono (by omega)) ((lG y).mono (by omega)))
have lFG:∀ x y,jc (f x*g y) 1000000:=fun x y=>by
 have h1:jc (f x) (2*(a+1)+2*(d+1)):=by rw[hf];exact oa.len x
 have h2:jc (g y) (2*(c+1)+2*(e+1)):=by rw[hg];exact ob.len y
 exact (h1.mul h2).mono (by omega)
have AD:=af (fun (s x:Nat) (W:World) (p q:Nat) (hx:x≤1000) (hy:x≤s∧s-x<n2) (h1:zo W p (tgP f g n2 s x)) (h2:zo W q (f x*g (s-x)))=>show Calls prog 58 #[.pointer (some ⟨p,0,none⟩),.pointer (some ⟨q,0,none⟩)] W fun e w'=>∃ zb,e=.returned (.pointer (some ⟨zb,0,none⟩))∧zo w' zb (tgP f g n2 s (x+1))∧But [] W w' by
 rw[zxz f g n2 s x hy]
 exact zrc p q _ _ W h1 h2 ((lP s x hx).mono (by omega)) ((lFG x _).mono (by omega)))
have I0:=af (fun W=>zls 0 W (by omega) (by omega))
have NO:=af (fun (s x:Nat) (h:¬ (x≤s∧s-x<n2))=>qcv f g n2 s x h)
have hmk:=fun wx=>zoj wx N (by omega)
have hNI:(n1:Int)+(n2:Int)-1=(N:Int):=by omega
have hl1:n1≤300:=by omega
have hl2:n2≤300:=by omega
have hlN:N≤600:=by omega
have hN0:0<N:=by omega
have p1:0<n1:=by omega
have p2:0<n2:=by omega
rw[← hn1] at RC1
rw[← hn2] at RC2
rw[← hf,← hg,← hN]
clear hf hg tk1 tk2 k1 k2 lfs ha hb ta tb oa ob lP lF lG lFG na nb z1 z2
go_enter func21,ntmps21
go_wp2_with fail
refine (ae T1 _ (But.refl _ _)).mono ?_
rintro e w1 ⟨v1,rfl,h1,hb1⟩
have HB:=af hb1
have R1:=af h1
clear h1 hb1 T1
go_wp2_with fail
refine (ae T2 _ (ae HB)).mono ?_
rintro e w2 ⟨v2,rfl,h2,hb2⟩
replace HB:=af ((ae HB).trans' hb2)
obtain⟨qa,ca,rfl,hca,hV1⟩:=ae RC1 w2 v1 (by rw[hn1];exact (ae R1).but hb2)
obtain⟨qb,cb,rfl,hcb,hV2⟩:=ae RC2 w2 v2 (by rw[hn2];exact h2)
have HA:=af hV1
have HC:=af hV2
clear hb2 h2 hV1 hV2 R1 RC1 RC2 T2 hn1 hn2 hN
go_wp2
have bw0:But [] w2 (w2.alloc (.cells (madeCells #[.pointer none] N) 37)):=(But.refl _ _).alloc _
have R0:jq (w2.alloc (.cells (madeCells #[.pointer none] N) 37)) w2.heap.size N (fun j=>j<0) (cv f g):=(jq.made w2 N hN0 (cv f g) _).mono (fun i _ h=>absurd h (by omega))
obtain⟨gG,hgG⟩:∃ g,g=w2.heap.size:=⟨_,rfl⟩
rw[← hgG] at R0
rw[← hgG]
have HG:Hid (w2.heap.size≤gG):=Nat.le_of_eq hgG.symm
generalize w2.alloc (.cells (madeCells #[.pointer none] N) 37)=V0 at *
have S0:=af (And.intro R0 bw0)
clear R0 bw0 hgG hmk
go_loopw [22] (fun i wr=>∃ s:Nat,s≤N∧i=.int .i64 (s:Int)∧Hid (jq wr gG N (fun j=>j<s) (cv f g)∧But [] w2 wr)) (fun i _=>N-(intOf i).toNat)
case atStart=>exact⟨0,Nat.zero_le _,rfl,ae S0⟩
case round =>(
obtain⟨s,hs,rfl,HI⟩:=hrel
rename World=>wr
clear S0
by_cases hsN:s<N
·(
go_wp2_with fail
refine (ae I0 _).mono ?_
rintro e w3 ⟨g3,rfl,h3,hb3⟩
have row:=(ae HI).1.but hb3
obtain⟨q,hq⟩:=row.cell s hsN
have fz:=row.loose s
have NX:Hid (jq (w3.setCell ⟨gG,s,none⟩ (.pointer (some ⟨g3,0,none⟩))) gG N (fun j=>j<s+1) (fun j=>if j=s then tgP f g n2 s 0 else cv f g j)∧But [] w2 (w3.setCell ⟨gG,s,none⟩ (.pointer (some ⟨g3,0,none⟩)))):=⟨(row.put hsN (f:=tgP f g n2 s 0) h3).mono (fun i _ h=>⟨by omega,rfl⟩),((ae HI).2.trans' hb3).trans (zbi w3 gG s _) (fun x hx=>by simp at hx;subst hx;exact .inr (ae HG))⟩
clear h3 hb3 row HI
go_wp2
go_loopw [31] (fun i wr=>∃ x:Nat,x≤n1∧i=.int .i64 (x:Int)∧Hid (jq wr gG N (fun j=>j<s+1) (fun j=>if j=s then tgP f g n2 s x else cv f g j)∧But [] w2 wr)) (fun i _=>n1-(intOf i).toNat)
case atStart=>exact⟨0,Nat.zero_le _,rfl,ae NX⟩
case round =>(
obtain⟨x,hx,rfl,HJ⟩:=hrel
rename World=>wx
clear NX hq fz
by_cases hxn:x<n1
·(
rcases Nat.lt_or_ge s x with hsx | hsx
·(
have c1:¬ (s:Int)-(x:Int) ≥ 0:=by omega
have NY:Hid (jq wx gG N (fun j=>j<s+1) (fun j=>if j=s then tgP f g n2 s (x+1) else cv f g j)∧But [] w2 wx):=by
 show _∧_
 rw[ae NO s x (by omega)]
 exact ae HJ
clear HJ
go_wp2
exact⟨⟨x+1,by omega,by go_num,ae NY⟩,by simp[intOf];omega⟩)
·(
obtain⟨y,hy⟩:∃ y,y=s-x:=⟨_,rfl⟩
have hyI:(s:Int)-(x:Int)=(y:Int):=by omega
rcases Nat.lt_or_ge y n2 with hyn | hyn
·(
have hcond:x≤s∧s-x<n2:=⟨hsx,by omega⟩
obtain⟨ba,oa,gx,ea,cx,rx⟩:=ae HA wx (ae HJ).2 x hxn
obtain⟨bb,ob,gy,eb,cy,ry⟩:=ae HC wx (ae HJ).2 y hyn
subst ea eb
obtain⟨bo,co,ro⟩:=(ae HJ).1.told s hsN (by omega)
rw[if_pos rfl] at ro
have fz:=(ae HJ).1.loose s
have MUH:Hid (∀ W,But [] wx W→Calls prog 91 #[.pointer (some ⟨gx,0,none⟩),.pointer (some ⟨gy,0,none⟩)] W fun e w'=>∃ b,e=.returned (.pointer (some ⟨b,0,none⟩))∧zo w' b (f x*g y)∧But [] W w'):=fun W hb=>ae MU x y W gx gy (rx.but hb) (ry.but hb)
have ADH:Hid (∀ W p,But [] wx W→zo W p (f x*g y)→Calls prog 58 #[.pointer (some ⟨bo,0,none⟩),.pointer (some ⟨p,0,none⟩)] W fun e w'=>∃ b,e=.returned (.pointer (some ⟨b,0,none⟩))∧zo w' b (tgP f g n2 s (x+1))∧But [] W w'):=fun W p hb hp=>ae AD s x W bo p (by omega) hcond (ro.but hb) (by rw[← hy];exact hp)
have ST:Hid (∀ W q,But [] wx W→zo W q (tgP f g n2 s (x+1))→jq (W.setCell ⟨gG,s,none⟩ (.pointer (some ⟨q,0,none⟩))) gG N (fun j=>j<s+1) (fun j=>if j=s then tgP f g n2 s (x+1) else cv f g j)∧But [] w2 (W.setCell ⟨gG,s,none⟩ (.pointer (some ⟨q,0,none⟩)))):=fun W q hb hq=>⟨(((ae HJ).1.but hb).put hsN hq).mono (fun i _ h=>⟨.inr h,by split <;> rfl⟩),((ae HJ).2.trans' hb).trans (zbi W gG s _) (fun z hz=>by simp at hz;subst hz;exact .inr (ae HG))⟩
have HY:=af hyI
have c1:(s:Int)-(x:Int) ≥ 0:=by omega
have c2:(s:Int)-(x:Int)<(n2:Int):=by omega
clear rx ry ro hy hyI
go_wp2
refine zhs 12 _ _ wx gG N s ba oa n1 ca x bb ob n2 cb y bo gx gy (f x*g y) (tgP f g n2 s (x+1)) (by simp) (by simp[Act.eval]) (by simp[Act.eval]) (by simp[Act.eval]) (by simp[Act.eval]) (by simp[Act.eval]) (by simp[Act.eval,ae HY]) hsN hxn hyn co cx cy fz (fun W hb=>ae MUH W hb) (fun W p hb hp=>ae ADH W p hb hp) ?_
intro p5 q5 w5 hP
simp only[bj,List.foldl_cons,List.foldl_nil,Act.put,List.setIfInBounds_toArray,List.set_cons_zero,List.set_cons_succ]
have NZ:=af (ae ST _ _ hP.mem (hP.f15 rfl))
clear hP MUH ADH ST HJ co cx cy fz HY
go_wp2
exact⟨⟨x+1,by omega,by go_num,ae NZ⟩,by simp[intOf];omega⟩)
·(
have c1:(s:Int)-(x:Int) ≥ 0:=by omega
have c2:¬ (s:Int)-(x:Int)<(n2:Int):=by omega
have NY:Hid (jq wx gG N (fun j=>j<s+1) (fun j=>if j=s then tgP f g n2 s (x+1) else cv f g j)∧But [] w2 wx):=by
 show _∧_
 rw[ae NO s x (by omega)]
 exact ae HJ
clear HJ
go_wp2
exact⟨⟨x+1,by omega,by go_num,ae NY⟩,by simp[intOf];omega⟩)))
·(
obtain rfl:x=n1:=by omega
have NY:Hid (jq wx gG N (fun j=>j<s+1) (cv f g)∧But [] w2 wx):=⟨(ae HJ).1.mono (fun i _ h=>⟨h,by
 by_cases e:i=s
 ·rw[if_pos e,e,ae CV s]
 ·rw[if_neg e]⟩),(ae HJ).2⟩
clear HJ
go_wp2
exact⟨⟨s+1,by omega,by go_num,ae NY⟩,by simp[intOf];omega⟩)))
·(
obtain rfl:s=N:=by omega
have FIN:=af (And.intro ((ae HI).1.mono (S':=fun _=>True) (F':=cv f g) (fun i hi _=>⟨hi,rfl⟩)).qai ((ae HB).trans' (ae HI).2))
clear HI
go_wp2
go_ret
exact⟨_,rfl,(ae FIN).1,(ae FIN).2⟩)))
theorem qbz {f g:Nat→Rat} (hf:∀ k,0≤f k) (hg:∀ k,0≤g k) (s:Nat):0≤cv f g s:=by(
rw[zbr]
have h:∀ n,0≤us (fun k=>f k*g (s-k)) n:=fun n=>by
 induction n with
 | zero=>exact Rat.le_refl
 | succ n ih =>
  show 0≤us _ n+f n*g (s-n)
  have:=Rat.mul_nonneg (hf n) (hg (s-n))
  grind
exact h _)
structure kg (f:Nat→Rat) (m:Nat):Prop where
 nn:∀ k,0≤f k
 top:0<f m
 far:∀ k,m<k→f k=0
theorem kg.prod {f g:Nat→Rat} {p q:Nat} (h:kg f p) (k:kg g q):kg (cv f g) (p+q):=by(
refine⟨fun s=>qbz h.nn k.nn s,?_,fun s hs=>qgr f g p q s h.far k.far hs⟩
have hz:∀ j,j≠p→f j*g (p+q-j)=0:=fun j hj=>by
 rcases Nat.lt_or_ge p j with h1 | h1
 ·rw[h.far j h1];grind
 ·rw[k.far (p+q-j) (by omega)];grind
have e:∀ n,n≤p→us (fun j=>f j*g (p+q-j)) n=0:=fun n=>by
 induction n with
 | zero=>exact fun _=>rfl
 | succ n ih =>
  intro hn
  show us _ n+f n*g (p+q-n)=0
  rw[ih (by omega),hz n (by omega)];grind
have e2:∀ d,us (fun j=>f j*g (p+q-j)) (p+1+d)=f p*g q:=fun d=>by
 induction d with
 | zero =>
  show us _ p+f p*g (p+q-p)=_
  rw[e p (Nat.le_refl _),show p+q-p=q by omega];grind
 | succ d ih =>
  show us _ (p+1+d)+f (p+1+d)*g (p+q-(p+1+d))=_
  rw[ih,hz (p+1+d) (by omega)];grind
rw[zbr,show p+q+1=p+1+q by omega,e2]
exact Rat.mul_pos h.top k.top)
theorem kg.unit:kg un 0:=⟨fun k=>by unfold un;split <;> grind,by decide,fun k hk=>by unfold un;rw[if_neg (by omega)]⟩
theorem kg.powers {f:Nat→Rat} {m:Nat} (h:kg f m):∀ n,kg (pw f n) (n*m)
 | 0=>by rw[Nat.zero_mul];exact kg.unit
 | n+1=>by
  have:=h.prod (kg.powers h n)
  rw[show (n+1)*m=m+n*m by rw[Nat.succ_mul];omega]
  exact this
theorem qea (f:Nat→Rat) (i:Nat):∀ j,cv (pw f i) (pw f j)=pw f (i+j)
 | 0=>by
  show cv (pw f i) un=_
  rw[zjb,qgq];rfl
 | j+1=>by
  show cv (pw f i) (cv f (pw f j))=cv f (pw f (i+j))
  rw[← zuv,zjb (pw f i) f,zuv,qea f i j]
theorem kg.zkm {f:Nat→Rat} {m:Nat} (h:kg f m) {n:Nat} (hn:m<n):Top f n m :=
 ⟨hn,.inr (fun e=>by have:=h.top;rw[Rat.num_eq_zero.1 e] at this;exact absurd this (by decide)),h.far⟩
theorem zwr (F:Nat→Rat) (m:Nat) (h:∀ k,m<k→F k=0):lf ((List.range (m+1)).map F)=F:=by(
funext i
rcases Nat.lt_or_ge i (m+1) with hi | hi
·exact zfw F (m+1) i hi
·rw[ru _ i (by simpa using hi),h i (by omega)])
theorem Over.powers {f:Nat→Rat} {D:Rat} {a d m:Nat} (h:Over f D a d) (r:kg f m) (hm:m<1000):∀ n,Over (pw f n) (qy D n) (n*(a+1)) (n*d)
 | 0=>by
  refine⟨fun k=>?_,?_,?_⟩
  ·rw[Nat.zero_mul]
   show isN (un k*1) (18446744073709551616^0)
   unfold un
   split
   ·exact⟨1,by rw[Rat.mul_one];rfl,by decide⟩
   ·exact⟨0,by rw[Rat.zero_mul];rfl,by decide⟩
  ·rw[Nat.zero_mul];exact zdl _ (by decide)
  ·show (0:Rat)<1;decide
 | n+1=>by
  have ih:=Over.powers h r hm n
  have hc:=h.prod ih (m+1) (by omega) (fun k hk=>r.far k (by omega)) (n*m+1) (fun k hk=>(kg.powers r n).far k (by omega))
  have e:qy D (n+1)=D*qy D n:=by show qy D n*D=_;grind
  refine⟨fun k=>?_,?_,?_⟩
  ·rw[e]
   have:=hc.all k
   rw[show (n+1)*(a+1)=a+n*(a+1)+1 by rw[Nat.succ_mul];omega]
   exact this
  ·rw[e,show (n+1)*d=d+n*d by rw[Nat.succ_mul];omega]
   exact hc.low
  ·rw[e];exact hc.pos
theorem zqz (v:Value) (fs:List Rat) (m a d:Nat) (D:Rat) (r:kg (lf fs) m) (hm:m<fs.length) (hn:fs.length≤300) (ov:Over (lf fs) D a d):∀ n:Nat,n≤200→n*m≤250→n*(a+d+1)≤2000→∀ w:World,za w v fs →
  Calls prog 26 #[v,.int .i64 (n:Int)] w fun e w'=>∃ v',e=.returned v'∧za w' v' ((List.range (n*m+1)).map (pw (lf fs) n))∧But [] w w':=fun n=>by
 induction n using Nat.strongRecOn with
 | _ n ih =>
 intro hn2 hnm hnl w hv
 have lfs:∀ (xs:List Rat) i,i<xs.length→xs[i]? = some (lf xs i):=fun xs i hi=>by
  unfold lf
  rw[List.getElem?_eq_getElem hi];rfl
 by_cases h0:n=0
 ·subst h0
  have I1:=af (zls 1 w (by omega) (by omega))
  clear ih
  go_enter func26,ntmps26
  go_wp2_with fail
  refine (ae I1).mono ?_
  rintro e w1 ⟨zb,rfl,hr,hb⟩
  have hO:=zeh.one w1 (.pointer (some ⟨zb,0,none⟩)) ((1:Int):Rat) ⟨zb,rfl,hr⟩
  have FIN:=af (And.intro hO.qai (hb.trans' ((But.refl _ _).alloc (.cells #[.pointer (some ⟨zb,0,none⟩)] 37))))
  clear hO hr hb I1
  go_wp2
  go_ret
  refine⟨_,rfl,?_,(ae FIN).2⟩
  rw[Nat.zero_mul]
  exact (ae FIN).1
 by_cases h1:n=1
 ·subst h1
  have TR:=af (wu v fs (lf fs) m w hv (lfs fs) (by omega) (fun i _=>(ov.len i).mono (by omega)) hm (.inr (fun e=>by have:=r.top;rw[Rat.num_eq_zero.1 e] at this;exact absurd this (by decide))) (fun j h _=>by rw[r.far j h];rfl))
  have e1:(List.range (1*m+1)).map (pw (lf fs) 1)=fs.take (m+1):=by
   have e2:pw (lf fs) 1=lf fs:=by show cv (lf fs) un=_;rw[zjb,qgq]
   rw[e2,Nat.one_mul]
   apply List.ext_getElem?
   intro i
   rw[List.getElem?_map,List.getElem?_take]
   rcases Nat.lt_or_ge i (m+1) with hi | hi
   ·rw[List.getElem?_range hi,if_pos hi,lfs fs i (by omega)];rfl
   ·rw[List.getElem?_eq_none (by simpa using hi),if_neg (by omega)];rfl
  rw[e1]
  clear ih e1
  go_enter func26,ntmps26
  go_wp2_with fail
  refine (ae TR).mono ?_
  rintro e w1 ⟨v',rfl,hr,hb⟩
  have FIN:=af (And.intro hr hb)
  clear hr hb TR
  go_wp2
  go_ret
  exact⟨_,rfl,(ae FIN).1,(ae FIN).2⟩
 obtain⟨h,hh⟩:∃ h,h=n/2:=⟨_,rfl⟩
 have hlt:h<n:=by omega
 have hhm:h*m≤n*m:=Nat.mul_le_mul_right m (by omega)
 have hhl:h*(a+d+1)≤n*(a+d+1):=Nat.mul_le_mul_right _ (by omega)
 have REC:=af (ih h hlt (by omega) (by omega) (by omega) w hv)
 have rh:=kg.powers r h
 have oh:=Over.powers ov r (by omega) h
 have e1:lf ((List.range (h*m+1)).map (pw (lf fs) h))=pw (lf fs) h:=zwr _ _ rh.far
 have hsum:h*(a+1)+h*d=h*(a+d+1):=by rw[← Nat.mul_add];congr 1;omega
 have hlen:((List.range (h*m+1)).map (pw (lf fs) h)).length=h*m+1:=by simp
 have TW:=af (fun W u (hu:za W u ((List.range (h*m+1)).map (pw (lf fs) h)))=>o9 u u _ _ (h*m) (h*m) (h*(a+1)) (h*(a+1)) (h*d) (h*d) (qy D h) (qy D h) W hu (by rw[hlen];omega) (by rw[e1,hlen];exact rh.zkm (by omega)) (by rw[e1];exact oh) hu (by rw[hlen];omega) (by rw[e1,hlen];exact rh.zkm (by omega)) (by rw[e1];exact oh) (by omega))
 rw[e1,qea] at TW
 have r2:=kg.powers r (h+h)
 have o2:=Over.powers ov r (by omega) (h+h)
 have e2:lf ((List.range (h*m+h*m+1)).map (pw (lf fs) (h+h)))=pw (lf fs) (h+h):=zwr _ _ (fun k hk=>r2.far k (by rw[Nat.add_mul];exact hk))
 have hlen2:((List.range (h*m+h*m+1)).map (pw (lf fs) (h+h))).length=h*m+h*m+1:=by simp
 have h2m:h*m+h*m≤n*m:=by
  rw[← Nat.add_mul];exact Nat.mul_le_mul_right m (by omega)
 have h2s:(h+h)*(a+1)+(h+h)*d≤n*(a+d+1):=by
  rw[← Nat.mul_add,show a+1+d=a+d+1 by omega];exact Nat.mul_le_mul_right _ (by omega)
 have hal:a+d≤2000:=by
  have:1*(a+d+1)≤n*(a+d+1):=Nat.mul_le_mul_right _ (by omega)
  omega
 have TO:=af (fun W u (hu:za W u ((List.range (h*m+h*m+1)).map (pw (lf fs) (h+h)))) (hb:But [] w W)=>o9 u v _ fs (h*m+h*m) m ((h+h)*(a+1)) a ((h+h)*d) d (qy D (h+h)) D W hu (by rw[hlen2];omega) (by rw[e2,hlen2];exact (show kg (pw (lf fs) (h+h)) (h*m+h*m) by rw[← Nat.add_mul];exact r2).zkm (by omega)) (by rw[e2];exact o2) (hv.but hb) hn (r.zkm hm) ov (by omega))
 rw[e2] at TO
 have hodd:n=h+h∨n=h+h+1:=by omega
 have hq:(n:Int)/2=(h:Int):=by omega
 have n0:((n:Int)==0)=false:=beq_eq_false_iff_ne.2 (by omega)
 have n1:((n:Int)==1)=false:=beq_eq_false_iff_ne.2 (by omega)
 have EV:Hid (n=h+h→(List.range (n*m+1)).map (pw (lf fs) n)=(List.range (h*m+h*m+1)).map (pw (lf fs) (h+h))):=fun e=>by rw[e,Nat.add_mul]
 have OD:Hid (n=h+h+1→(List.range (n*m+1)).map (pw (lf fs) n)=(List.range (h*m+h*m+m+1)).map (cv (pw (lf fs) (h+h)) (lf fs))):=fun e=>by
  rw[e,Nat.succ_mul,Nat.add_mul,zjb]
  rfl
 clear ih hh hhm hhl rh oh e1 hsum hlen r2 o2 e2 hlen2 h2m h2s hal hv r ov lfs hm hn hnm hnl h0 h1
 generalize (List.range (h*m+1)).map (pw (lf fs) h)=L1 at *
 generalize (List.range (h*m+h*m+1)).map (pw (lf fs) (h+h))=L2 at *
 generalize (List.range (h*m+h*m+m+1)).map (cv (pw (lf fs) (h+h)) (lf fs))=L3 at *
 generalize (List.range (n*m+1)).map (pw (lf fs) n)=L4 at *
 have qH:=af hq
 rcases hodd with ho | ho
 ·have HE:=af (ae EV ho)
  have hr:((n:Int)%2==1)=false:=beq_eq_false_iff_ne.2 (by omega)
  have hr2:((n:Int).tmod 2==1)=false:=beq_eq_false_iff_ne.2 (by rw[Int.tmod_eq_emod_of_nonneg (by omega)];omega)
  have hq2:(n:Int).tdiv 2=(h:Int):=by rw[Int.tdiv_eq_ediv_of_nonneg (by omega)];exact hq
  clear ho EV OD TO
  go_enter func26,ntmps26
  go_wp2_with fail
  refine (ae REC).mono ?_
  rintro e w1 ⟨u1,rfl,h1,hb⟩
  have HB:=af hb
  have R1:=af h1
  clear h1 hb REC
  go_wp2_with fail
  refine (ae TW _ _ (ae R1)).mono ?_
  rintro e w2 ⟨u2,rfl,h2,hb⟩
  have FIN:=af (And.intro h2 ((ae HB).trans' hb))
  clear h2 hb HB R1 TW
  go_wp2
  go_ret
  rw[ae HE]
  exact⟨_,rfl,(ae FIN).1,(ae FIN).2⟩
 ·have HE:=af (ae OD ho)
  have hr:((n:Int)%2==1)=true:=beq_iff_eq.2 (by omega)
  have hr2:((n:Int).tmod 2==1)=true:=beq_iff_eq.2 (by rw[Int.tmod_eq_emod_of_nonneg (by omega)];omega)
  have hq2:(n:Int).tdiv 2=(h:Int):=by rw[Int.tdiv_eq_ediv_of_nonneg (by omega)];exact hq
  clear ho EV OD
  go_enter func26,ntmps26
  go_wp2_with fail
  refine (ae REC).mono ?_
  rintro e w1 ⟨u1,rfl,h1,hb⟩
  have HB:=af hb
  have R1:=af h1
  clear h1 hb REC
  go_wp2_with fail
  refine (ae TW _ _ (ae R1)).mono ?_
  rintro e w2 ⟨u2,rfl,h2,hb⟩
  replace HB:=af ((ae HB).trans' hb)
  have R2:=af h2
  clear h2 hb R1 TW
  go_wp2_with fail
  refine (ae TO _ _ (ae R2) (ae HB)).mono ?_
  rintro e w3 ⟨u3,rfl,h3,hb⟩
  have FIN:=af (And.intro h3 ((ae HB).trans' hb))
  clear h3 hb HB R2 TO
  go_wp2
  go_ret
  rw[ae HE]
  exact⟨_,rfl,(ae FIN).1,(ae FIN).2⟩
def znr (no s:Nat→Rat) (last:Nat):Nat→Nat→Rat
 | 0=>fun _=>0
 | t+1=>cv (hor no s last t) s
theorem qmc (no s:Nat→Rat) (last:Nat):∀ t i,hor no s last t i=znr no s last t i+no (last-t)*un i
 | 0,i=>by
  show no last*un i=0+no (last-0)*un i
  rw[Nat.sub_zero];grind
 | t+1,i=>rfl
theorem kg.horner {no s:Nat→Rat} {last q:Nat} (h:kg no last) (r:kg s q):∀ t,t≤last→kg (hor no s last t) (t*q)
 | 0,_=>by
  rw[Nat.zero_mul]
  refine⟨fun k=>?_,?_,fun k hk=>?_⟩
  ·show 0≤no last*un k
   exact Rat.mul_nonneg (h.nn _) (kg.unit.nn k)
  ·show 0<no last*un 0
   have e:un 0=1:=rfl
   rw[e];have:=h.top;grind
  ·show no last*un k=0
   rw[kg.unit.far k hk];grind
 | t+1,ht=>by
  have ih:=(kg.horner h r t (by omega)).prod r
  rw[show (t+1)*q=t*q+q from Nat.succ_mul t q]
  have hn:∀ k,0≤no (last-(t+1))*un k:=fun k=>Rat.mul_nonneg (h.nn _) (kg.unit.nn k)
  refine⟨fun k=>?_,?_,fun k hk=>?_⟩
  ·show 0≤cv (hor no s last t) s k+no (last-(t+1))*un k
   have h1:=ih.nn k
   have h2:=hn k
   grind
  ·show 0<cv (hor no s last t) s (t*q+q)+no (last-(t+1))*un (t*q+q)
   have h1:=ih.top
   have h2:=hn (t*q+q)
   grind
  ·show cv (hor no s last t) s k+no (last-(t+1))*un k=0
   rw[ih.far k hk,kg.unit.far k (by omega)];grind
theorem Over.horner {no s:Nat→Rat} {D E:Rat} {a c d e last q:Nat} (h:Over no D a d) (k:Over s E c e) (r:kg no last) (rs:kg s q) (hq:last*q≤900):∀ t,t≤last→Over (hor no s last t) (D*qy E t) (a+t*(c+e+2)) (d+t*e)
 | 0,_=>by
  rw[Nat.zero_mul,Nat.zero_mul]
  have e1:qy E 0=1:=rfl
  rw[e1,Rat.mul_one]
  refine⟨fun i=>?_,h.low,h.pos⟩
  show isN (no last*un i*D) (18446744073709551616^(a+0))
  by_cases hi:i=0
  ·have e2:un i=1:=by rw[hi];rfl
   rw[e2,Rat.mul_one];exact h.all _
  ·have e2:un i=0:=kg.unit.far i (by omega)
   rw[e2,Rat.mul_zero,Rat.zero_mul];exact zah _
 | t+1,ht=>by
  have ih:=Over.horner h k r rs hq t (by omega)
  have hw:=kg.horner r rs t (by omega)
  have htq:t*q≤last*q:=Nat.mul_le_mul_right q (by omega)
  have hc:=ih.prod k (t*q+1) (by omega) (fun i hi=>hw.far i (by omega)) (q+1) (fun i hi=>rs.far i (by omega))
  have e1:D*qy E (t+1)=D*qy E t*E:=by show D*(qy E t*E)=_;grind
  have hE:∀ n,isN (qy E n) (18446744073709551616^(n*e)):=fun n=>by
   induction n with
   | zero=>rw[Nat.zero_mul];exact zdl _ (by simp)
   | succ n ihn=>rw[Nat.succ_mul,Nat.pow_add];exact ihn.mul k.low
  refine⟨fun i=>?_,?_,by rw[e1];exact hc.pos⟩
  ·have e2:hor no s last (t+1) i*(D*qy E (t+1))=cv (hor no s last t) s i*(D*qy E t*E)+no (last-(t+1))*D*(un i*qy E (t+1)):=by
    rw[e1]
    have e3:qy E (t+1)=qy E t*E:=rfl
    rw[e3]
    show (cv (hor no s last t) s i+no (last-(t+1))*un i)*(D*qy E t*E)=_
    grind
   rw[e2]
   have n1:=hc.all i
   have n2:isN (no (last-(t+1))*D*(un i*qy E (t+1))) (18446744073709551616^(a+(t+1)*e)):=by
    rw[Nat.pow_add]
    refine (h.all _).mul ?_
    by_cases hi:i=0
    ·have e4:un i=1:=by rw[hi];rfl
     rw[e4,Rat.one_mul];exact hE _
    ·have e4:un i=0:=kg.unit.far i (by omega)
     rw[e4,Rat.zero_mul];exact zah _
   have hM:(t+1)*(c+e+2)=t*(c+e+2)+(c+e+2):=Nat.succ_mul _ _
   have hM2:(t+1)*e≤(t+1)*(c+e+1):=Nat.mul_le_mul_left _ (by omega)
   have hM3:(t+1)*(c+e+2)=(t+1)*(c+e+1)+(t+1):=by rw[← Nat.mul_succ]
   refine ((n1.mono (Nat.pow_le_pow_right (by decide) (show a+t*(c+e+2)+c+1≤a+(t+1)*(c+e+2)-1 by omega))).add (n2.mono (Nat.pow_le_pow_right (by decide) (show a+(t+1)*e≤a+(t+1)*(c+e+2)-1 by omega)))).mono ?_
   obtain⟨M,hMM⟩:∃ M,a+(t+1)*(c+e+2)=M+1:=⟨a+(t+1)*(c+e+2)-1,by omega⟩
   rw[hMM,Nat.add_sub_cancel,Nat.pow_succ]
   omega
  ·rw[e1,show d+(t+1)*e=(d+t*e)+e by rw[Nat.succ_mul];omega]
   exact hc.low
theorem jq.qjp {w:World} {g n c:Nat} {F:Nat→Rat} (h:jq w g n (fun _=>True) F) (hc:n≤c):za w (.slice (some ⟨g,0,none⟩) n c) ((List.range n).map F):=by(
refine⟨some ⟨g,0,none⟩,c,by simp,by simpa using hc,fun i f hi=>?_⟩
have hin:i<n:=by
 have:=(List.getElem?_eq_some_iff.1 hi).1
 simpa using this
rw[List.getElem?_map,List.getElem?_range hin,Option.map_some] at hi
obtain rfl:=Option.some.inj hi
obtain⟨b,hc,hb⟩:=h.told i hin trivial
exact⟨g,0,_,rfl,by rw[Nat.zero_add];exact hc,b,rfl,hb⟩)
theorem qcb (w V:World) (g b off n cap:Nat) (fs:List Rat) (F:Nat→Rat) (hr:za w (.slice (some ⟨b,off,none⟩) n cap) fs) (hF:∀ i,i<n→fs[i]? = some (F i)) (hV:But [] w V) (hown:V.ownsRow w.heap.size 37 1 (.slice (some ⟨g,0,none⟩) 0 0) 0 []) (h0:0<n) (hn:n≤1000) :
  ∃ g' c' w',(Builtin.append_ #[42,42] 42 #[.slice (some ⟨g,0,none⟩) 0 0,.slice (some ⟨b,off,none⟩) n cap]).run prog V=.ok (.slice (some ⟨g',0,none⟩) n c') w'∧n≤c'∧w.heap.size≤g'∧jq w' g' n (fun _=>True) F∧But [] w w':=by(
obtain⟨i0,hi,hz0,hz1,hz2⟩:=zit
obtain⟨us,hl,hus,hval⟩:=hr.vals
obtain⟨v',w',hrun,ho,hg,-⟩:=run_append_own (P:=prog) V w.heap.size 42 42 37 i0 _ 1 8 underlying42 hi hz0 hz1 hz2 rfl (by decide) (.slice (some ⟨g,0,none⟩) 0 0) 0 [] hown ⟨b,off,none⟩ n cap us (by rw[hl,Nat.mul_one]) (fun j u hj=>by
  have e:(⟨b,off,none⟩:Addr).add j=⟨b,off+j,none⟩:=by
   by_cases hz:j=0
   ·simp[Addr.add,hz]
   ·simp[Addr.add,hz]
  rw[e]
  exact hV.ag (hus j u hj).1 (by simp)) (fun u hu=>by
  obtain⟨j,hj,rfl⟩:=List.mem_iff_getElem.1 hu
  exact (hus j _ (List.getElem?_eq_getElem hj)).2) (by unfold maxLen;omega) (by omega) hV.size
have hB:But [] w w':=ou hV hown (Nat.le_refl _) hg
rw[Nat.zero_add,List.nil_append] at ho
rcases ho.2 with ⟨-,e⟩|⟨g',c',cur,e,h1,h2,h3,h4,-⟩
·omega
·(
subst e
have cells:∀ i,i<n→∃ g2,w'.cell? ⟨g',i,none⟩=some (.pointer (some ⟨g2,0,none⟩))∧zo w' g2 (F i):=fun i hin=>by
 obtain⟨u,hu,g2,rfl,hp⟩:=hval i _ (hF i hin)
 have hc:=ho.cells (g:=g') rfl i _ hu
 have ea:(⟨g',0,none⟩:Addr).add i=⟨g',i,none⟩:=by
  by_cases hz:i=0
  ·simp[Addr.add,hz]
  ·simp[Addr.add,hz]
 rw[ea] at hc
 exact⟨g2,hc,hp.but hB⟩
exact⟨g',c',w',hrun,h3,h1,⟨fun i hin _=>cells i hin,fun i hin=>(cells i hin).elim fun g2 h=>⟨_,h.1⟩,fun j=>by simp[World.frozen?,h2],h0⟩,hB⟩))
end Go.Proofs.YtpmjeclpkahkmaaGreatDoor
