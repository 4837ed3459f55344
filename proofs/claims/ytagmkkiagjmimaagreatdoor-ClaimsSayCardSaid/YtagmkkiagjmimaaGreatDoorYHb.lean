/- zuq division in words of base 2^32, pla -/
import Derived.Test.YtagmkkiagjmimaaGreatDoorYN18
namespace Go.Proofs.YtagmkkiagjmimaaGreatDoor
set_option linter.unusedVariables false
structure zii (S W P u0 u1 u2 v1 v2:Nat):Prop where
 s:∃ Sr,S=((u0*4294967296+u1)*4294967296+u2)*P+Sr∧Sr<P
 w:∃ Wr,W=(v1*4294967296+v2)*P+Wr∧Wr<P
 lt:S<W*4294967296
 hi:2147483648≤v1
 hv1:v1<4294967296
 hv2:v2<4294967296
 hu1:u1<4294967296
 hu2:u2<4294967296
theorem zii.pos {S W P u0 u1 u2 v1 v2:Nat} (h:zii S W P u0 u1 u2 v1 v2):0<P∧0<W:=by(
 obtain⟨Wr,h1,h2⟩:=h.w
 have:=h.hi
 refine⟨by omega,?_⟩
 rw[h1]
 have h3:1*P≤(v1*4294967296+v2)*P:=Nat.mul_le_mul_right _ (by omega)
 omega)
theorem zii.top {S W P u0 u1 u2 v1 v2:Nat} (h:zii S W P u0 u1 u2 v1 v2):u0≤v1:=by(
 obtain⟨Sr,hs,-⟩:=h.s
 obtain⟨Wr,hw,hwr⟩:=h.w
 have hP:=h.pos.1
 have hlt:=h.lt
 have h2:=h.hv2
 rcases Nat.lt_or_ge v1 u0 with hc | hc
 ·(
 exfalso
 have h3:(v1+1)*4294967296*4294967296*P≤((u0*4294967296+u1)*4294967296+u2)*P:=Nat.mul_le_mul_right _ (by omega)
 have h4:W<(v1+1)*4294967296*P:=by
  have:(v1*4294967296+v2+1)*P≤(v1+1)*4294967296*P:=Nat.mul_le_mul_right _ (by omega)
  rw[Nat.succ_mul] at this
  omega
 have h5:W*4294967296<(v1+1)*4294967296*P*4294967296:=by omega
 have h6:(v1+1)*4294967296*P*4294967296=(v1+1)*4294967296*4294967296*P:=by grind
 omega)
 ·exact hc)
theorem zii.qlq {S W P u0 u1 u2 v1 v2:Nat} (h:zii S W P u0 u1 u2 v1 v2):S/W<4294967296:=Nat.div_lt_of_lt_mul h.lt
theorem zii.qla {S W P u0 u1 u2 v1 v2:Nat} (h:zii S W P u0 u1 u2 v1 v2) (g:Nat) (hg:g≤S/W):g*(v1*4294967296+v2)≤(u0*4294967296+u1)*4294967296+u2:=by(
 obtain⟨Sr,hs,hsr⟩:=h.s
 obtain⟨Wr,hw,hwr⟩:=h.w
 have h1:g*W≤S:=Nat.le_trans (Nat.mul_le_mul_right _ hg) (Nat.div_mul_le_self S W)
 have h2:g*(v1*4294967296+v2)*P≤g*W:=by
  have e:g*W=g*(v1*4294967296+v2)*P+g*Wr:=by rw[hw];grind
  omega
 rcases Nat.lt_or_ge ((u0*4294967296+u1)*4294967296+u2) (g*(v1*4294967296+v2)) with hc | hc
 ·exfalso
  have h3:((u0*4294967296+u1)*4294967296+u2+1)*P≤g*(v1*4294967296+v2)*P:=Nat.mul_le_mul_right _ hc
  rw[Nat.succ_mul] at h3
  omega
 ·exact hc)
structure zbb (S W u0 u1 v1 g r:Nat):Prop where
 eq:u0*4294967296+u1=g*v1+r
 ge:S/W≤g
 le:g≤4294967297
theorem zbb.start {S W P u0 u1 u2 v1 v2:Nat} (h:zii S W P u0 u1 u2 v1 v2):zbb S W u0 u1 v1 ((u0*4294967296+u1)/v1) ((u0*4294967296+u1)%v1):=by(
 have hv:=h.hi
 refine⟨(Nat.div_add_mod' _ _).symm,?_,?_⟩
 ·(
 rw[Nat.le_div_iff_mul_le (by omega)]
 have h1:=h.qla (S/W) (Nat.le_refl _)
 have h2:=h.hu2
 rw[Nat.mul_add,← Nat.mul_assoc] at h1
 omega)
 ·(
 have h1:=h.top
 have h2:=h.hu1
 have h3:(u0*4294967296+u1)/v1<4294967298:=by
  rw[Nat.div_lt_iff_lt_mul (by omega)]
  omega
 omega))
theorem zbb.next {S W P u0 u1 u2 v1 v2 g r:Nat} (h:zii S W P u0 u1 u2 v1 v2) (k:zbb S W u0 u1 v1 g r) (hc:4294967295<g∨r*4294967296+u2<g*v2):0<g∧zbb S W u0 u1 v1 (g-1) (r+v1):=by(
 have hq:S/W<g:=by
  rcases hc with hc | hc
  ·exact Nat.lt_of_lt_of_le h.qlq hc
  ·rcases Nat.lt_or_ge (S/W) g with h1 | h1
   ·exact h1
   ·exfalso
    have h2:=h.qla g h1
    rw[k.eq,Nat.mul_add,← Nat.mul_assoc] at h2
    omega
 have h0:0<g:=Nat.lt_of_le_of_lt (Nat.zero_le _) hq
 refine⟨h0,?_,Nat.le_sub_one_of_lt hq,Nat.le_trans (Nat.sub_le _ _) k.le⟩
 have e:=k.eq
 obtain⟨p,rfl⟩:∃ p,g=p+1:=⟨g-1,by omega⟩
 rw[Nat.succ_mul] at e
 rw[Nat.add_sub_cancel]
 omega)
theorem zbb.small {S W P u0 u1 u2 v1 v2 g r:Nat} (h:zii S W P u0 u1 u2 v1 v2) (k:zbb S W u0 u1 v1 g r) (hr:4294967296≤r):g≤4294967295∧g*v2≤r*4294967296+u2:=by(
 have h1:=h.top
 have h2:=h.hu1
 have e:=k.eq
 have hg:g≤4294967295:=by
  rcases Nat.lt_or_ge 4294967295 g with hc | hc
  ·exfalso
   have h3:4294967296*v1≤g*v1:=Nat.mul_le_mul_right _ hc
   omega
  ·exact hc
 refine⟨hg,?_⟩
 have h4:g*v2≤4294967295*4294967295:=Nat.mul_le_mul hg (by have:=h.hv2;omega)
 omega)
theorem zbb.fin {S W P u0 u1 u2 v1 v2 g r:Nat} (h:zii S W P u0 u1 u2 v1 v2) (k:zbb S W u0 u1 v1 g r) (hg:g≤4294967295) (ht:g*v2≤r*4294967296+u2):g=S/W∨(g=S/W+1):=by(
 obtain⟨Sr,hs,hsr⟩:=h.s
 obtain⟨Wr,hw,hwr⟩:=h.w
 have hW:=h.pos.2
 have h1:g*(v1*4294967296+v2)≤(u0*4294967296+u1)*4294967296+u2:=by
  rw[k.eq,Nat.mul_add,← Nat.mul_assoc];omega
 have h2:g*(v1*4294967296+v2)*P≤((u0*4294967296+u1)*4294967296+u2)*P:=Nat.mul_le_mul_right _ h1
 have h3:g*Wr≤g*P:=Nat.mul_le_mul_left _ (by omega)
 have h4:g*P≤W:=by
  rw[hw]
  have:g*P≤(v1*4294967296+v2)*P:=Nat.mul_le_mul_right _ (by have:=h.hi;omega)
  omega
 have h5:g*W≤S+W:=by
  have:g*W=g*(v1*4294967296+v2)*P+g*Wr:=by rw[hw];grind
  omega
 have h6:g≤S/W+1:=by
  rcases Nat.eq_zero_or_pos g with h0 | h0
  ·rw[h0];exact Nat.zero_le _
  ·obtain⟨p,rfl⟩:∃ p,g=p+1:=⟨g-1,by omega⟩
   rw[Nat.succ_mul] at h5
   have:p≤S/W:=by rw[Nat.le_div_iff_mul_le hW];omega
   exact Nat.succ_le_succ this
 have h7:=k.ge
 generalize S/W=Q at *
 omega)
/-! ### taking away -/
structure Taken (us0 us vs:List Nat) (j k c d g:Nat):Prop where
 len:us.length=us0.length
 mem:∀ x ∈ us,x<4294967296
 car:c<4294967296
 bor:d≤1
 val:vl 4294967296 us+4294967296^j*(g*vl 4294967296 (vs.take k))=vl 4294967296 us0+4294967296^(j+k)*(c+d)
 same:∀ i,j+k≤i→us[i]?.getD 0=us0[i]?.getD 0
theorem Taken.start (us vs:List Nat) (j g:Nat) (hm:∀ x ∈ us,x<4294967296):Taken us us vs j 0 0 0 g :=
 ⟨rfl,hm,by omega,by omega,by simp[vl],fun _ _=>rfl⟩
theorem Taken.step {us0 us vs:List Nat} {j k c d g:Nat} (h:Taken us0 us vs j k c d g) (hk:j+k<us0.length) (hv:vs[k]?.getD 0<4294967296) (hg:g≤4294967295) (c1 s d':Nat) (hc1:c1=c+g*vs[k]?.getD 0) (hs:s<4294967296) (hd:d'≤1) (e:s+c1%4294967296+d=us[j+k]?.getD 0+4294967296*d'):Taken us0 (us.set (j+k) s) vs j (k+1) (c1/4294967296) d' g:=by(
 have hl:=h.len
 have hcc:c1<4294967296*4294967296:=by
  have:g*vs[k]?.getD 0≤4294967295*4294967295:=Nat.mul_le_mul hg (by omega)
  have:=h.car
  omega
 refine⟨by rw[List.length_set];exact hl,mem_set h.mem _ _ hs,Nat.div_lt_of_lt_mul hcc,hd,?_,fun i hi=>by rw[List.getElem?_set_ne (by omega)];exact h.same i (by omega)⟩
 have h1:=ig 4294967296 us (j+k) s (by omega)
 have h2:=h.val
 have h3:=Nat.div_add_mod c1 4294967296
 rw[wu,show j+(k+1)=j+k+1 from by omega,Nat.pow_succ,Nat.pow_add] at *
 generalize us[j+k]?.getD 0=u at *
 generalize vs[k]?.getD 0=v at *
 generalize vl 4294967296 (us.set (j+k) s)=A at *
 generalize vl 4294967296 us=B at *
 generalize vl 4294967296 us0=D at *
 generalize vl 4294967296 (vs.take k)=E at *
 generalize c1/4294967296=hi at *
 generalize c1%4294967296=lo at *
 generalize (4294967296:Nat)^j=P at *
 generalize (4294967296:Nat)^k=Q at *
 have e2:(s+lo+d)*(P*Q)=(u+4294967296*d')*(P*Q):=by rw[e]
 have e3:(4294967296*hi+lo)*(P*Q)=(c+g*v)*(P*Q):=by rw[h3,hc1]
 grind)
/-! ### adding back -/
structure zrj (us0 us vs:List Nat) (j k c:Nat):Prop where
 len:us.length=us0.length
 mem:∀ x ∈ us,x<4294967296
 car:c≤1
 val:vl 4294967296 us+4294967296^(j+k)*c=vl 4294967296 us0+4294967296^j*vl 4294967296 (vs.take k)
 same:∀ i,j+k≤i→us[i]?.getD 0=us0[i]?.getD 0
theorem zrj.start (us vs:List Nat) (j:Nat) (hm:∀ x ∈ us,x<4294967296):zrj us us vs j 0 0 :=
 ⟨rfl,hm,by omega,by simp[vl],fun _ _=>rfl⟩
theorem zrj.step {us0 us vs:List Nat} {j k c:Nat} (h:zrj us0 us vs j k c) (hk:j+k<us0.length) (hv:vs[k]?.getD 0<4294967296) (hu:us[j+k]?.getD 0<4294967296) (c1:Nat) (hc1:c1=c+(us[j+k]?.getD 0+vs[k]?.getD 0)):zrj us0 (us.set (j+k) (c1%4294967296)) vs j (k+1) (c1/4294967296):=by(
 have hl:=h.len
 refine⟨by rw[List.length_set];exact hl,mem_set h.mem _ _ (Nat.mod_lt _ (by omega)),by have:=h.car;omega,?_,fun i hi=>by rw[List.getElem?_set_ne (by omega)];exact h.same i (by omega)⟩
 have h1:=ig 4294967296 us (j+k) (c1%4294967296) (by omega)
 have h2:=h.val
 have h3:=Nat.div_add_mod c1 4294967296
 rw[wu,show j+(k+1)=j+k+1 from by omega,Nat.pow_succ,Nat.pow_add] at *
 generalize us[j+k]?.getD 0=u at *
 generalize vs[k]?.getD 0=v at *
 generalize vl 4294967296 (us.set (j+k) (c1%4294967296))=A at *
 generalize vl 4294967296 us=B at *
 generalize vl 4294967296 us0=D at *
 generalize vl 4294967296 (vs.take k)=E at *
 generalize c1/4294967296=hi at *
 generalize c1%4294967296=lo at *
 generalize (4294967296:Nat)^j=P at *
 generalize (4294967296:Nat)^k=Q at *
 have e3:(4294967296*hi+lo)*(P*Q)=(c+(u+v))*(P*Q):=by rw[h3,hc1]
 grind)
open Go.RowKit
theorem zgy (us:List Nat) (m:Nat) (h:vl 4294967296 us<4294967296^m):∀ i,m≤i→us[i]?.getD 0=0:=fun i hi=>by
 rcases Nat.lt_or_ge i us.length with hl | hl
 ·have e:=zaq 4294967296 us i hl
  rcases Nat.eq_zero_or_pos (us[i]?.getD 0) with h0 | h0
  ·exact h0
  ·exfalso
   have h1:4294967296^i*1≤4294967296^i*(us[i]?.getD 0+4294967296*vl 4294967296 (us.drop (i+1))):=Nat.mul_le_mul_left _ (by omega)
   have h2:4294967296^m≤4294967296^i:=Nat.pow_le_pow_right (by omega) hi
   omega
 ·rw[List.getElem?_eq_none hl];rfl
theorem ug (us:List Nat) (m:Nat) (hz:∀ i,m≤i→us[i]?.getD 0=0):vl 4294967296 (us.drop m)=0:=zbt _ _ (fun j _=>by rw[List.getElem?_drop];exact hz _ (by omega))
theorem tu (us:List Nat) (m:Nat) (hm:m≤us.length):vl 4294967296 us=vl 4294967296 (us.take m)+4294967296^m*vl 4294967296 (us.drop m):=by(
 have:=congrArg (vl 4294967296) (List.take_append_drop m us)
 rw[qd,List.length_take,Nat.min_eq_left hm] at this
 exact this.symm)
theorem jy (us:List Nat) (m:Nat) (hm:m≤us.length) (hx:∀ x ∈ us,x<4294967296):vl 4294967296 (us.take m)<4294967296^m:=by(
 have:=ni (by omega:0<4294967296) (us.take m) (fun x h=>hx x (List.mem_of_mem_take h))
 rw[List.length_take,Nat.min_eq_left hm] at this
 exact this)
theorem zyt (us:List Nat) (m:Nat) (hm:m≤us.length) (hx:∀ x ∈ us,x<4294967296) (hz:∀ i,m≤i→us[i]?.getD 0=0):vl 4294967296 us<4294967296^m:=by
 rw[tu us m hm,ug us m hz,Nat.mul_zero,Nat.add_zero]
 exact jy us m hm hx
theorem zrp (us:List Nat) (m:Nat) (hm:m<us.length) (hz:∀ i,m+1≤i→us[i]?.getD 0=0):vl 4294967296 us=vl 4294967296 (us.take m)+4294967296^m*us[m]?.getD 0:=by
 rw[tu us m (by omega),xw 4294967296 us m hm,ug us (m+1) hz,Nat.mul_zero,Nat.add_zero]
theorem qhc (us vs:List Nat) (j n:Nat) (hn:vs.length=n+2) (hj:j+(n+2)<us.length) (hu:∀ x ∈ us,x<4294967296) (hv:∀ x ∈ vs,x<4294967296) (hlt:vl 4294967296 us<vl 4294967296 vs*4294967296^j*4294967296) (hhi:2147483648≤vs[n+1]?.getD 0) :
   zii (vl 4294967296 us) (vl 4294967296 vs*4294967296^j) (4294967296^(j+n)) (us[j+(n+2)]?.getD 0) (us[j+(n+2)-1]?.getD 0) (us[j+(n+2)-2]?.getD 0) (vs[n+1]?.getD 0) (vs[n]?.getD 0):=by(
 have bu:=fun i=>bt hu (by omega:0<4294967296) i
 have bv:=fun i=>bt hv (by omega:0<4294967296) i
 have hV:=ni (by omega:0<4294967296) vs hv
 have hS:vl 4294967296 us<4294967296^(j+(n+2)+1):=by
  refine Nat.lt_of_lt_of_le hlt ?_
  rw[show 4294967296^(j+(n+2)+1)=4294967296^(n+2)*4294967296^j*4294967296 from by rw[← Nat.pow_add,← Nat.pow_succ];congr 1;omega]
  rw[hn] at hV
  exact Nat.mul_le_mul_right _ (Nat.mul_le_mul_right _ (Nat.le_of_lt hV))
 have hz:=zgy us _ hS
 refine⟨⟨vl 4294967296 (us.take (j+n)),?_,jy us _ (by omega) hu⟩,⟨vl 4294967296 (vs.take n)*4294967296^j,?_,?_⟩,hlt,hhi,bv _,bv _,bu _,bu _⟩
 ·rw[tu us (j+n) (by omega),xw _ us (j+n) (by omega),xw _ us (j+n+1) (by omega),xw _ us (j+n+1+1) (by omega),ug us (j+n+1+1+1) (fun i hi=>hz i (by omega))]
  rw[show j+(n+2)=j+n+1+1 from by omega,show j+n+1+1-1=j+n+1 from by omega,show j+n+1+1-2=j+n from by omega]
  grind
 ·rw[tu vs n (by omega),xw _ vs n (by omega),xw _ vs (n+1) (by omega),ug vs (n+1+1) (fun i hi=>by rw[List.getElem?_eq_none (by omega)];rfl),Nat.pow_add]
  grind
 ·rw[Nat.pow_add,Nat.mul_comm (4294967296^j)]
  exact Nat.mul_lt_mul_of_pos_right (jy vs n (by omega) hv) (Nat.pow_pos (by omega)))
theorem zuy {us0 us vs:List Nat} {j n c d g u:Nat} (h:Taken us0 us vs j n c d g) (hn:vs.length=n) (hj:j+n<us0.length) (hu:us[j+n]?.getD 0=u) (hge:c+d≤u) (hg:vl 4294967296 us0/(vl 4294967296 vs*4294967296^j)≤g) (hW:0<vl 4294967296 vs*4294967296^j) :
   g=vl 4294967296 us0/(vl 4294967296 vs*4294967296^j)∧vl 4294967296 (us.set (j+n) (u-c-d))=vl 4294967296 us0%(vl 4294967296 vs*4294967296^j):=by(
 have h1:=ig 4294967296 us (j+n) (u-c-d) (by rw[h.len];exact hj)
 have h2:=h.val
 rw[hu] at h1
 rw[List.take_of_length_le (by omega)] at h2
 have e:vl 4294967296 (us.set (j+n) (u-c-d))+g*(vl 4294967296 vs*4294967296^j)=vl 4294967296 us0:=by
  obtain⟨z,hz⟩:∃ z,u=c+d+z:=⟨u-(c+d),by omega⟩
  rw[show u-c-d=z from by omega] at h1 ⊢
  subst hz
  generalize vl 4294967296 (us.set (j+n) z)=X at *
  generalize vl 4294967296 us=Y at *
  generalize vl 4294967296 us0=S at *
  generalize (4294967296:Nat)^(j+n)=Q at *
  generalize (4294967296:Nat)^j=P at *
  grind
 generalize vl 4294967296 vs*4294967296^j=W at *
 generalize vl 4294967296 us0=S at *
 have hq:g≤S/W:=by rw[Nat.le_div_iff_mul_le hW];omega
 have hqe:g=S/W:=Nat.le_antisymm hq hg
 refine⟨hqe,?_⟩
 have h3:=Nat.div_add_mod S W
 rw[← hqe,Nat.mul_comm] at h3
 omega)
theorem zux {us0 us vs:List Nat} {j n c d g u:Nat} (h:Taken us0 us vs j n c d g) (hn:vs.length=n) (hj:j+n<us0.length) (hu:us[j+n]?.getD 0=u) (hlt:u<c+d) (hg:g=vl 4294967296 us0/(vl 4294967296 vs*4294967296^j)∨g=vl 4294967296 us0/(vl 4294967296 vs*4294967296^j)+1) (hS:vl 4294967296 us0<4294967296^(j+n+1)) :
   g=vl 4294967296 us0/(vl 4294967296 vs*4294967296^j)+1∧vl 4294967296 (us.set (j+n) (u+4294967296-(c+d)))+vl 4294967296 vs*4294967296^j=vl 4294967296 us0%(vl 4294967296 vs*4294967296^j)+4294967296^(j+n+1)∧(∀ x ∈ us.set (j+n) (u+4294967296-(c+d)),x<4294967296)∧(∀ i,j+n+1≤i→(us.set (j+n) (u+4294967296-(c+d)))[i]?.getD 0=0):=by(
 have hc:=h.car
 have hd:=h.bor
 have hl:=h.len
 have hz:=zgy us0 _ hS
 have hm':∀ x ∈ us.set (j+n) (u+4294967296-(c+d)),x<4294967296:=mem_set h.mem _ _ (by omega)
 have hz':∀ i,j+n+1≤i→(us.set (j+n) (u+4294967296-(c+d)))[i]?.getD 0=0:=fun i hi=>by
  rw[List.getElem?_set_ne (by omega),h.same i (by omega)];exact hz i hi
 have hlt':=zyt (us.set (j+n) (u+4294967296-(c+d))) (j+n+1) (by rw[List.length_set,hl];omega) hm' hz'
 have h1:=ig 4294967296 us (j+n) (u+4294967296-(c+d)) (by rw[h.len];exact hj)
 have h2:=h.val
 rw[hu] at h1
 rw[List.take_of_length_le (by omega)] at h2
 have e:vl 4294967296 (us.set (j+n) (u+4294967296-(c+d)))+g*(vl 4294967296 vs*4294967296^j)=vl 4294967296 us0+4294967296^(j+n+1):=by
  obtain⟨z,hz⟩:∃ z,z+(c+d)=u+4294967296:=⟨u+4294967296-(c+d),by omega⟩
  rw[show u+4294967296-(c+d)=z from by omega] at h1 ⊢
  rw[Nat.pow_succ]
  generalize vl 4294967296 (us.set (j+n) z)=X at *
  generalize vl 4294967296 us=Y at *
  generalize vl 4294967296 us0=S at *
  generalize (4294967296:Nat)^(j+n)=Q at *
  generalize (4294967296:Nat)^j=P at *
  have e2:(z+(c+d))*Q=(u+4294967296)*Q:=by rw[hz]
  grind
 refine⟨?_,?_,hm',hz'⟩
 ·(
 rcases hg with hg | hg
 ·exfalso
  have h3:=Nat.div_mul_le_self (vl 4294967296 us0) (vl 4294967296 vs*4294967296^j)
  rw[← hg] at h3
  omega
 ·exact hg)
 ·(
 have hg':g=vl 4294967296 us0/(vl 4294967296 vs*4294967296^j)+1:=by
  rcases hg with hg | hg
  ·exfalso
   have h3:=Nat.div_mul_le_self (vl 4294967296 us0) (vl 4294967296 vs*4294967296^j)
   rw[← hg] at h3
   omega
  ·exact hg
 have h3:=Nat.div_add_mod (vl 4294967296 us0) (vl 4294967296 vs*4294967296^j)
 rw[hg',Nat.succ_mul] at e
 rw[Nat.mul_comm] at h3
 omega))
theorem qgk {us0 us vs:List Nat} {j n c R W:Nat} (h:zrj us0 us vs j n c) (hn:vs.length=n) (hj:j+n<us0.length) (hz:∀ i,j+n+1≤i→us0[i]?.getD 0=0) (hW:W=vl 4294967296 vs*4294967296^j) (hWl:W≤4294967296^(j+n)) (hR:R<W) (e:vl 4294967296 us0+W=R+4294967296^(j+n+1)) :
   us[j+n]?.getD 0+c=4294967296∧vl 4294967296 (us.set (j+n) 0)=R:=by(
 have h2:=h.val
 have hl:=h.len
 rw[List.take_of_length_le (by omega)] at h2
 have hz':∀ i,j+n+1≤i→us[i]?.getD 0=0:=fun i hi=>by rw[h.same i (by omega)];exact hz i hi
 have ht:=zrp us (j+n) (by omega) hz'
 have hlo:=jy us (j+n) (by omega) h.mem
 have h1:=ig 4294967296 us (j+n) 0 (by omega)
 rw[Nat.zero_mul,Nat.add_zero] at h1
 generalize us[j+n]?.getD 0=t at *
 rw[Nat.pow_succ] at e
 rw[Nat.mul_comm (4294967296^j),← hW] at h2
 generalize vl 4294967296 (us.take (j+n))=L at *
 generalize vl 4294967296 (us.set (j+n) 0)=X at *
 generalize vl 4294967296 us=Y at *
 generalize vl 4294967296 us0=S at *
 generalize (4294967296:Nat)^(j+n)=Q at *
 have e2:L+Q*(t+c)=R+Q*4294967296:=by grind
 have htc:t+c=4294967296:=by
  rcases Nat.lt_trichotomy (t+c) 4294967296 with hc | hc | hc
  ·exfalso
   have:Q*(t+c+1)≤Q*4294967296:=Nat.mul_le_mul_left _ hc
   rw[Nat.mul_succ] at this
   omega
  ·exact hc
  ·exfalso
   have:Q*(4294967296+1)≤Q*(t+c):=Nat.mul_le_mul_left _ hc
   rw[Nat.mul_succ] at this
   omega
 refine⟨htc,?_⟩
 rw[htc] at e2
 have:t*Q=Q*t:=Nat.mul_comm _ _
 omega)
structure zuq (A V:Nat) (us qs:List Nat) (t:Nat):Prop where
 um:∀ x ∈ us,x<4294967296
 qm:∀ x ∈ qs,x<4294967296
 lt:vl 4294967296 us<V*4294967296^t
 zero:∀ j,j<t→qs[j]?.getD 0=0
 val:vl 4294967296 us+V*vl 4294967296 qs=A
theorem zuq.step {A V:Nat} {us us' qs:List Nat} {j q:Nat} (h:zuq A V us qs (j+1)) (hq:j<qs.length) (hq1:q=vl 4294967296 us/(V*4294967296^j)) (hV:0<V) (hm:∀ x ∈ us',x<4294967296) (hu:vl 4294967296 us'=vl 4294967296 us%(V*4294967296^j)):zuq A V us' (qs.set j q) j:=by(
 have hW:0<V*4294967296^j:=Nat.mul_pos hV (Nat.pow_pos (by omega))
 have hqB:q<4294967296:=by
  rw[hq1]
  refine Nat.div_lt_of_lt_mul ?_
  have:=h.lt
  rw[Nat.pow_succ,← Nat.mul_assoc] at this
  exact this
 refine⟨hm,mem_set h.qm _ _ hqB,by rw[hu];exact Nat.mod_lt _ hW,fun i hi=>by rw[List.getElem?_set_ne (by omega)];exact h.zero i (by omega),?_⟩
 rw[zlg _ qs j q hq (h.zero j (by omega)),hu]
 have h1:=Nat.div_add_mod (vl 4294967296 us) (V*4294967296^j)
 rw[← hq1] at h1
 have h2:=h.val
 generalize vl 4294967296 us%(V*4294967296^j)=R at *
 generalize vl 4294967296 us=S at *
 generalize vl 4294967296 qs=Z at *
 generalize (4294967296:Nat)^j=P at *
 grind)
theorem zuq.fin {A V:Nat} {us qs:List Nat} (h:zuq A V us qs 0):vl 4294967296 qs=A/V∧vl 4294967296 us=A%V:=by(
 have h1:=h.lt
 rw[Nat.pow_zero,Nat.mul_one] at h1
 have h2:=h.val
 have hV:0<V:=by omega
 constructor
 ·rw[← h2,Nat.add_mul_div_left _ _ hV,Nat.div_eq_of_lt h1,Nat.zero_add]
 ·rw[← h2,Nat.add_mul_mod_self_left,Nat.mod_eq_of_lt h1])
end Go.Proofs.YtagmkkiagjmimaaGreatDoor
