/- Words of base 2^32, plain: what holds in -/
import Derived.Deep.LoopGhost
import Derived.Test.YteipfplbcbaheaaGreatDoorIN18
namespace Go.Proofs.YteipfplbcbaheaaGreatDoor
open Go.RowKit
theorem vl_take_more (B:Nat) (xs:List Nat) (k:Nat):vl B (xs.take (k+1))=vl B (xs.take k)+xs[k]?.getD 0*B^k:=by
 rcases Nat.lt_or_ge k xs.length with h | h
 ·exact vl_take_succ B xs k h
 ·rw [List.take_of_length_le h,List.take_of_length_le (by omega),List.getElem?_eq_none h];simp
theorem vl_set0 (B:Nat) (rs:List Nat) (k s:Nat) (hk:k<rs.length) (hz:rs[k]?.getD 0=0):vl B (rs.set k s)=vl B rs+s*B^k:=by
 have:=vl_set B rs k s hk
 rw [hz,Nat.zero_mul,Nat.add_zero] at this
 exact this
structure RowI (k:IntKind) (w:World) (g:Nat) (rs:List Nat):Prop where
 row:Row k w g rs
 ints:0<rs.length→Ints k w g
theorem ints_madeK (k:IntKind) (w:World) (n:Nat) (t:TypeId):Ints k (w.alloc (.cells (madeCells #[.int k 0] n) t)) w.heap.size:=fun i v hv=>by
 rw [World.cell?_alloc_new] at hv
 unfold madeCells at hv
 rw [Array.getElem?_map] at hv
 obtain ⟨x,-,rfl⟩:=Option.map_eq_some_iff.1 hv
 exact ⟨0,by simp [Nat.mod_one]⟩
theorem RowI.made (k:IntKind) (w:World) (n:Nat) (t:TypeId):RowI k (w.alloc (.cells (madeCells #[.int k 0] n) t)) w.heap.size (List.replicate n 0):=⟨Row.made k w n t,fun _=>ints_madeK k w n t⟩
theorem RowI.set {k:IntKind} {w:World} {g:Nat} {rs:List Nat} (h:RowI k w g rs) (i:Nat) (hi:i<rs.length) (t:Nat):RowI k (w.setCell ⟨g,i,none⟩ (.int k t)) g (rs.set i t):=⟨h.row.set i hi t,fun h0=>(h.ints (by rw [List.length_set] at h0;exact h0)).set i t⟩
theorem RowI.sl {k:IntKind} {w:World} {g:Nat} {rs:List Nat} (h:RowI k w g rs) (cap:Nat) (hc:rs.length≤cap):Sl k w (.slice (some ⟨g,0,none⟩) rs.length cap) rs:=Sl.mk g 0 cap hc (fun i hi=>by rw [Nat.zero_add];exact (h.row i hi).1) h.ints
theorem RowI.lt {k:IntKind} {w:World} {g:Nat} {rs:List Nat} (h:RowI k w g rs) (h0:0<rs.length):g<w.heap.size:=lt_of_cell (h.row 0 h0).1
theorem RowI.but {k:IntKind} {w w':World} {g:Nat} {rs:List Nat} {l:List Nat} (h:RowI k w g rs) (hb:But l w w') (hn:g ∉ l):RowI k w' g rs:=⟨fun i hi=>by
 have hl:=lt_of_cell (h.row i hi).1
 exact ⟨hb.cell_some (h.row i hi).1 hn,(hb.frozen (p:=⟨g,i,none⟩) hl hn).trans (h.row i hi).2⟩,fun h0=>(h.ints h0).but hb (h.lt h0) hn⟩
theorem RowI.drewN {k:IntKind} {w:World} {g:Nat} {rs:List Nat} (h:RowI k w g rs) (q:Nat):RowI k (w.drewN q) g rs:=h.but ((But.refl [] _).drewN q) (by simp)
/-! ### sums -/
structure AddU (xs ys rs:List Nat) (k c:Nat):Prop where
 len:rs.length=xs.length+1
 mem:∀ x ∈ rs,x<4294967296
 car:c≤1
 val:vl 4294967296 rs+c*4294967296^k=vl 4294967296 (xs.take k)+vl 4294967296 (ys.take k)
 zero:∀ j,k≤j→rs[j]?.getD 0=0
theorem AddU.start (xs ys:List Nat):AddU xs ys (List.replicate (xs.length+1) 0) 0 0 :=
 ⟨by simp,fun x hx=>by rw [List.mem_replicate] at hx;omega,by omega,by simp [vl_replicate,vl],fun j _=>by rw [List.getElem?_replicate];split <;> rfl⟩
theorem AddU.step {xs ys rs:List Nat} {k c:Nat} (h:AddU xs ys rs k c) (hk:k<xs.length) (hx:xs[k]?.getD 0<4294967296) (hy:ys[k]?.getD 0<4294967296) (t:Nat) (ht:t=c+xs[k]?.getD 0+ys[k]?.getD 0):AddU xs ys (rs.set k (t%4294967296)) (k+1) (t/4294967296):=by
 have hl:=h.len
 refine ⟨by rw [List.length_set];exact hl,mem_set h.mem _ _ (Nat.mod_lt _ (by omega)),by have:=h.car;omega,?_,fun j hj=>by rw [List.getElem?_set_ne (by omega)];exact h.zero j (by omega)⟩
 rw [vl_set0 _ rs k _ (by omega) (h.zero k (Nat.le_refl _)),vl_take_more,vl_take_more,Nat.pow_succ]
 have hv:=h.val
 have he:=Nat.div_add_mod t 4294967296
 have h3:c+xs[k]?.getD 0+ys[k]?.getD 0=4294967296*(t/4294967296)+t%4294967296:=by omega
 have h2:(c+xs[k]?.getD 0+ys[k]?.getD 0)*4294967296^k=(4294967296*(t/4294967296)+t%4294967296)*4294967296^k:=by rw [h3]
 generalize (4294967296:Nat)^k=P at *
 generalize t/4294967296=q at *
 generalize t%4294967296=s at *
 generalize vl 4294967296 rs=R at *
 generalize vl 4294967296 (xs.take k)=V1 at *
 generalize vl 4294967296 (ys.take k)=V2 at *
 grind
theorem AddU.fin {xs ys rs:List Nat} {c:Nat} (h:AddU xs ys rs xs.length c) (hy:ys.length≤xs.length):vl 4294967296 (rs.set xs.length c)=vl 4294967296 xs+vl 4294967296 ys∧(∀ x ∈ rs.set xs.length c,x<4294967296):=by
 refine ⟨?_,mem_set h.mem _ _ (by have:=h.car;omega)⟩
 have hv:=h.val
 rw [List.take_length,List.take_of_length_le hy] at hv
 rw [vl_set0 _ rs _ _ (by have:=h.len;omega) (h.zero _ (Nat.le_refl _)),hv]
/-! ### differences -/
structure SubU (xs ys rs:List Nat) (k c:Nat):Prop where
 len:rs.length=xs.length
 mem:∀ x ∈ rs,x<4294967296
 car:c≤1
 val:vl 4294967296 rs+vl 4294967296 (ys.take k)=vl 4294967296 (xs.take k)+c*4294967296^k
 zero:∀ j,k≤j→rs[j]?.getD 0=0
theorem SubU.start (xs ys:List Nat):SubU xs ys (List.replicate xs.length 0) 0 0 :=
 ⟨by simp,fun x hx=>by rw [List.mem_replicate] at hx;omega,by omega,by simp [vl_replicate,vl],fun j _=>by rw [List.getElem?_replicate];split <;> rfl⟩
theorem SubU.step {xs ys rs:List Nat} {k c:Nat} (h:SubU xs ys rs k c) (hk:k<xs.length) (s c':Nat) (hs:s<4294967296) (hc:c'≤1) (e:s+c+ys[k]?.getD 0=xs[k]?.getD 0+4294967296*c'):SubU xs ys (rs.set k s) (k+1) c':=by
 have hl:=h.len
 refine ⟨by rw [List.length_set];exact hl,mem_set h.mem _ _ hs,hc,?_,fun j hj=>by rw [List.getElem?_set_ne (by omega)];exact h.zero j (by omega)⟩
 rw [vl_set0 _ rs k _ (by omega) (h.zero k (Nat.le_refl _)),vl_take_more,vl_take_more,Nat.pow_succ]
 have hv:=h.val
 have h2:(s+c+ys[k]?.getD 0)*4294967296^k=(xs[k]?.getD 0+4294967296*c')*4294967296^k:=by rw [e]
 generalize (4294967296:Nat)^k=P at *
 generalize vl 4294967296 rs=R at *
 generalize vl 4294967296 (xs.take k)=V1 at *
 generalize vl 4294967296 (ys.take k)=V2 at *
 grind
theorem SubU.fin {xs ys rs:List Nat} {c:Nat} (h:SubU xs ys rs xs.length c) (hy:ys.length≤xs.length) (hle:vl 4294967296 ys≤vl 4294967296 xs):vl 4294967296 rs=vl 4294967296 xs-vl 4294967296 ys:=by
 have hv:=h.val
 rw [List.take_length,List.take_of_length_le hy] at hv
 have h1:=vl_lt (by omega:0<4294967296) rs h.mem
 rw [h.len] at h1
 rcases Nat.eq_zero_or_pos c with h0 | h0
 ·rw [h0] at hv;omega
 ·have:4294967296^xs.length≤c*4294967296^xs.length:=Nat.le_mul_of_pos_left _ h0
  omega
/-! ### shifts -/
theorem vl_digits (B Y:Nat):∀ (n:Nat) (rs:List Nat),rs.length=n→(∀ j,j<n→rs[j]?.getD 0=Y/B^j%B)→vl B rs=Y%B^n:=by
 intro n
 induction n with
 | zero =>
  intro rs h _
  have:rs=[]:=List.length_eq_zero_iff.1 h
  subst this;simp [vl,Nat.mod_one]
 | succ n ih =>
  intro rs h hd
  have e:=vl_take_succ B rs n (by omega)
  rw [List.take_of_length_le (by omega)] at e
  rw [e,ih (rs.take n) (by rw [List.length_take];omega) (fun j hj=>by rw [List.getElem?_take_of_lt hj];exact hd j (by omega)),hd n (by omega),Nat.pow_succ,Nat.mod_mul,Nat.mul_comm (Y/B^n%B)]
end Go.Proofs.YteipfplbcbaheaaGreatDoor

namespace Go.Proofs.YteipfplbcbaheaaGreatDoor
structure Tops (S W P u0 u1 u2 v1 v2:Nat):Prop where
 s:∃ Sr,S=((u0*4294967296+u1)*4294967296+u2)*P+Sr∧Sr<P
 w:∃ Wr,W=(v1*4294967296+v2)*P+Wr∧Wr<P
 lt:S<W*4294967296
 hi:2147483648≤v1
 hv1:v1<4294967296
 hv2:v2<4294967296
 hu1:u1<4294967296
 hu2:u2<4294967296
theorem Tops.pos {S W P u0 u1 u2 v1 v2:Nat} (h:Tops S W P u0 u1 u2 v1 v2):0<P∧0<W:=by
 obtain ⟨Wr,h1,h2⟩:=h.w
 have:=h.hi
 refine ⟨by omega,?_⟩
 rw [h1]
 have h3:1*P≤(v1*4294967296+v2)*P:=Nat.mul_le_mul_right _ (by omega)
 omega
theorem Tops.top {S W P u0 u1 u2 v1 v2:Nat} (h:Tops S W P u0 u1 u2 v1 v2):u0≤v1:=by
 obtain ⟨Sr,hs,-⟩:=h.s
 obtain ⟨Wr,hw,hwr⟩:=h.w
 have hP:=h.pos.1
 have hlt:=h.lt
 have h2:=h.hv2
 rcases Nat.lt_or_ge v1 u0 with hc | hc
 ·exfalso
  have h3:(v1+1)*4294967296*4294967296*P≤((u0*4294967296+u1)*4294967296+u2)*P:=Nat.mul_le_mul_right _ (by omega)
  have h4:W<(v1+1)*4294967296*P:=by
   have:(v1*4294967296+v2+1)*P≤(v1+1)*4294967296*P:=Nat.mul_le_mul_right _ (by omega)
   rw [Nat.succ_mul] at this
   omega
  have h5:W*4294967296<(v1+1)*4294967296*P*4294967296:=by omega
  have h6:(v1+1)*4294967296*P*4294967296=(v1+1)*4294967296*4294967296*P:=by grind
  omega
 ·exact hc
theorem Tops.quo_lt {S W P u0 u1 u2 v1 v2:Nat} (h:Tops S W P u0 u1 u2 v1 v2):S/W<4294967296:=Nat.div_lt_of_lt_mul h.lt
theorem Tops.ge_of {S W P u0 u1 u2 v1 v2:Nat} (h:Tops S W P u0 u1 u2 v1 v2) (g:Nat) (hg:g≤S/W):g*(v1*4294967296+v2)≤(u0*4294967296+u1)*4294967296+u2:=by
 obtain ⟨Sr,hs,hsr⟩:=h.s
 obtain ⟨Wr,hw,hwr⟩:=h.w
 have h1:g*W≤S:=Nat.le_trans (Nat.mul_le_mul_right _ hg) (Nat.div_mul_le_self S W)
 have h2:g*(v1*4294967296+v2)*P≤g*W:=by
  have e:g*W=g*(v1*4294967296+v2)*P+g*Wr:=by rw [hw];grind
  omega
 rcases Nat.lt_or_ge ((u0*4294967296+u1)*4294967296+u2) (g*(v1*4294967296+v2)) with hc | hc
 ·exfalso
  have h3:((u0*4294967296+u1)*4294967296+u2+1)*P≤g*(v1*4294967296+v2)*P:=Nat.mul_le_mul_right _ hc
  rw [Nat.succ_mul] at h3
  omega
 ·exact hc
structure Guess (S W u0 u1 v1 g r:Nat):Prop where
 eq:u0*4294967296+u1=g*v1+r
 ge:S/W≤g
 le:g≤4294967297
theorem Guess.start {S W P u0 u1 u2 v1 v2:Nat} (h:Tops S W P u0 u1 u2 v1 v2):Guess S W u0 u1 v1 ((u0*4294967296+u1)/v1) ((u0*4294967296+u1)%v1):=by
 have hv:=h.hi
 refine ⟨(Nat.div_add_mod' _ _).symm,?_,?_⟩
 ·rw [Nat.le_div_iff_mul_le (by omega)]
  have h1:=h.ge_of (S/W) (Nat.le_refl _)
  have h2:=h.hu2
  rw [Nat.mul_add,← Nat.mul_assoc] at h1
  omega
 ·have h1:=h.top
  have h2:=h.hu1
  have h3:(u0*4294967296+u1)/v1<4294967298:=by
   rw [Nat.div_lt_iff_lt_mul (by omega)]
   omega
  omega
theorem Guess.next {S W P u0 u1 u2 v1 v2 g r:Nat} (h:Tops S W P u0 u1 u2 v1 v2) (k:Guess S W u0 u1 v1 g r) (hc:4294967295<g∨r*4294967296+u2<g*v2):0<g∧Guess S W u0 u1 v1 (g-1) (r+v1):=by
 have hq:S/W<g:=by
  rcases hc with hc | hc
  ·exact Nat.lt_of_lt_of_le h.quo_lt hc
  ·rcases Nat.lt_or_ge (S/W) g with h1 | h1
   ·exact h1
   ·exfalso
    have h2:=h.ge_of g h1
    rw [k.eq,Nat.mul_add,← Nat.mul_assoc] at h2
    omega
 have h0:0<g:=Nat.lt_of_le_of_lt (Nat.zero_le _) hq
 refine ⟨h0,?_,Nat.le_sub_one_of_lt hq,Nat.le_trans (Nat.sub_le _ _) k.le⟩
 have e:=k.eq
 obtain ⟨p,rfl⟩:∃ p,g=p+1:=⟨g-1,by omega⟩
 rw [Nat.succ_mul] at e
 rw [Nat.add_sub_cancel]
 omega
theorem Guess.small {S W P u0 u1 u2 v1 v2 g r:Nat} (h:Tops S W P u0 u1 u2 v1 v2) (k:Guess S W u0 u1 v1 g r) (hr:4294967296≤r):g≤4294967295∧g*v2≤r*4294967296+u2:=by
 have h1:=h.top
 have h2:=h.hu1
 have e:=k.eq
 have hg:g≤4294967295:=by
  rcases Nat.lt_or_ge 4294967295 g with hc | hc
  ·exfalso
   have h3:4294967296*v1≤g*v1:=Nat.mul_le_mul_right _ hc
   omega
  ·exact hc
 refine ⟨hg,?_⟩
 have h4:g*v2≤4294967295*4294967295:=Nat.mul_le_mul hg (by have:=h.hv2;omega)
 omega
theorem Guess.fin {S W P u0 u1 u2 v1 v2 g r:Nat} (h:Tops S W P u0 u1 u2 v1 v2) (k:Guess S W u0 u1 v1 g r) (hg:g≤4294967295) (ht:g*v2≤r*4294967296+u2):g=S/W∨(g=S/W+1):=by
 obtain ⟨Sr,hs,hsr⟩:=h.s
 obtain ⟨Wr,hw,hwr⟩:=h.w
 have hW:=h.pos.2
 have h1:g*(v1*4294967296+v2)≤(u0*4294967296+u1)*4294967296+u2:=by
  rw [k.eq,Nat.mul_add,← Nat.mul_assoc];omega
 have h2:g*(v1*4294967296+v2)*P≤((u0*4294967296+u1)*4294967296+u2)*P:=Nat.mul_le_mul_right _ h1
 have h3:g*Wr≤g*P:=Nat.mul_le_mul_left _ (by omega)
 have h4:g*P≤W:=by
  rw [hw]
  have:g*P≤(v1*4294967296+v2)*P:=Nat.mul_le_mul_right _ (by have:=h.hi;omega)
  omega
 have h5:g*W≤S+W:=by
  have:g*W=g*(v1*4294967296+v2)*P+g*Wr:=by rw [hw];grind
  omega
 have h6:g≤S/W+1:=by
  rcases Nat.eq_zero_or_pos g with h0 | h0
  ·rw [h0];exact Nat.zero_le _
  ·obtain ⟨p,rfl⟩:∃ p,g=p+1:=⟨g-1,by omega⟩
   rw [Nat.succ_mul] at h5
   have:p≤S/W:=by rw [Nat.le_div_iff_mul_le hW];omega
   exact Nat.succ_le_succ this
 have h7:=k.ge
 generalize S/W=Q at *
 omega
/-! ### taking away -/
structure Taken (us0 us vs:List Nat) (j k c d g:Nat):Prop where
 len:us.length=us0.length
 mem:∀ x ∈ us,x<4294967296
 car:c<4294967296
 bor:d≤1
 val:vl 4294967296 us+4294967296^j*(g*vl 4294967296 (vs.take k))=vl 4294967296 us0+4294967296^(j+k)*(c+d)
 same:∀ i,j+k≤i→us[i]?.getD 0=us0[i]?.getD 0
theorem Taken.start (us vs:List Nat) (j g:Nat) (hm:∀ x ∈ us,x<4294967296):Taken us us vs j 0 0 0 g :=
 ⟨rfl,hm,by omega,by omega,by simp [vl],fun _ _=>rfl⟩
theorem Taken.step {us0 us vs:List Nat} {j k c d g:Nat} (h:Taken us0 us vs j k c d g) (hk:j+k<us0.length) (hv:vs[k]?.getD 0<4294967296) (hg:g≤4294967295) (c1 s d':Nat) (hc1:c1=c+g*vs[k]?.getD 0) (hs:s<4294967296) (hd:d'≤1) (e:s+c1%4294967296+d=us[j+k]?.getD 0+4294967296*d'):Taken us0 (us.set (j+k) s) vs j (k+1) (c1/4294967296) d' g:=by
 have hl:=h.len
 have hcc:c1<4294967296*4294967296:=by
  have:g*vs[k]?.getD 0≤4294967295*4294967295:=Nat.mul_le_mul hg (by omega)
  have:=h.car
  omega
 refine ⟨by rw [List.length_set];exact hl,mem_set h.mem _ _ hs,Nat.div_lt_of_lt_mul hcc,hd,?_,fun i hi=>by rw [List.getElem?_set_ne (by omega)];exact h.same i (by omega)⟩
 have h1:=vl_set 4294967296 us (j+k) s (by omega)
 have h2:=h.val
 have h3:=Nat.div_add_mod c1 4294967296
 rw [vl_take_more,show j+(k+1)=j+k+1 from by omega,Nat.pow_succ,Nat.pow_add] at *
 generalize us[j+k]?.getD 0=u at *
 generalize vs[k]?.getD 0=v at *
 generalize vl 4294967296 (us.set (j+k) s)=A at *
 generalize vl 4294967296 us=B at *
 generalize vl 4294967296 us0=D at *
 generalize vl 4294967296 (vs.take k)=E at *
 generalize c1/4294967296=hi at *
 generalize c1%4294967296=lo at *
 generalize (4294967296:Nat)^j=P at *
 generalize (4294967296:Nat)^k=Q at *
 have e2:(s+lo+d)*(P*Q)=(u+4294967296*d')*(P*Q):=by rw [e]
 have e3:(4294967296*hi+lo)*(P*Q)=(c+g*v)*(P*Q):=by rw [h3,hc1]
 grind
/-! ### adding back -/
structure Back (us0 us vs:List Nat) (j k c:Nat):Prop where
 len:us.length=us0.length
 mem:∀ x ∈ us,x<4294967296
 car:c≤1
 val:vl 4294967296 us+4294967296^(j+k)*c=vl 4294967296 us0+4294967296^j*vl 4294967296 (vs.take k)
 same:∀ i,j+k≤i→us[i]?.getD 0=us0[i]?.getD 0
theorem Back.start (us vs:List Nat) (j:Nat) (hm:∀ x ∈ us,x<4294967296):Back us us vs j 0 0 :=
 ⟨rfl,hm,by omega,by simp [vl],fun _ _=>rfl⟩
theorem Back.step {us0 us vs:List Nat} {j k c:Nat} (h:Back us0 us vs j k c) (hk:j+k<us0.length) (hv:vs[k]?.getD 0<4294967296) (hu:us[j+k]?.getD 0<4294967296) (c1:Nat) (hc1:c1=c+(us[j+k]?.getD 0+vs[k]?.getD 0)):Back us0 (us.set (j+k) (c1%4294967296)) vs j (k+1) (c1/4294967296):=by
 have hl:=h.len
 refine ⟨by rw [List.length_set];exact hl,mem_set h.mem _ _ (Nat.mod_lt _ (by omega)),by have:=h.car;omega,?_,fun i hi=>by rw [List.getElem?_set_ne (by omega)];exact h.same i (by omega)⟩
 have h1:=vl_set 4294967296 us (j+k) (c1%4294967296) (by omega)
 have h2:=h.val
 have h3:=Nat.div_add_mod c1 4294967296
 rw [vl_take_more,show j+(k+1)=j+k+1 from by omega,Nat.pow_succ,Nat.pow_add] at *
 generalize us[j+k]?.getD 0=u at *
 generalize vs[k]?.getD 0=v at *
 generalize vl 4294967296 (us.set (j+k) (c1%4294967296))=A at *
 generalize vl 4294967296 us=B at *
 generalize vl 4294967296 us0=D at *
 generalize vl 4294967296 (vs.take k)=E at *
 generalize c1/4294967296=hi at *
 generalize c1%4294967296=lo at *
 generalize (4294967296:Nat)^j=P at *
 generalize (4294967296:Nat)^k=Q at *
 have e3:(4294967296*hi+lo)*(P*Q)=(c+(u+v))*(P*Q):=by rw [h3,hc1]
 grind
end Go.Proofs.YteipfplbcbaheaaGreatDoor

namespace Go.Proofs.YteipfplbcbaheaaGreatDoor
open Go.RowKit
theorem vl_high_zero (us:List Nat) (m:Nat) (h:vl 4294967296 us<4294967296^m):∀ i,m≤i→us[i]?.getD 0=0:=fun i hi=>by
 rcases Nat.lt_or_ge i us.length with hl | hl
 ·have e:=vl_split 4294967296 us i hl
  rcases Nat.eq_zero_or_pos (us[i]?.getD 0) with h0 | h0
  ·exact h0
  ·exfalso
   have h1:4294967296^i*1≤4294967296^i*(us[i]?.getD 0+4294967296*vl 4294967296 (us.drop (i+1))):=Nat.mul_le_mul_left _ (by omega)
   have h2:4294967296^m≤4294967296^i:=Nat.pow_le_pow_right (by omega) hi
   omega
 ·rw [List.getElem?_eq_none hl];rfl
theorem vl_drop_zero (us:List Nat) (m:Nat) (hz:∀ i,m≤i→us[i]?.getD 0=0):vl 4294967296 (us.drop m)=0:=vl_zeros _ _ (fun j _=>by rw [List.getElem?_drop];exact hz _ (by omega))
theorem vl_parts (us:List Nat) (m:Nat) (hm:m≤us.length):vl 4294967296 us=vl 4294967296 (us.take m)+4294967296^m*vl 4294967296 (us.drop m):=by
 have:=congrArg (vl 4294967296) (List.take_append_drop m us)
 rw [vl_append,List.length_take,Nat.min_eq_left hm] at this
 exact this.symm
theorem vl_take_bound (us:List Nat) (m:Nat) (hm:m≤us.length) (hx:∀ x ∈ us,x<4294967296):vl 4294967296 (us.take m)<4294967296^m:=by
 have:=vl_lt (by omega:0<4294967296) (us.take m) (fun x h=>hx x (List.mem_of_mem_take h))
 rw [List.length_take,Nat.min_eq_left hm] at this
 exact this
theorem vl_low_lt (us:List Nat) (m:Nat) (hm:m≤us.length) (hx:∀ x ∈ us,x<4294967296) (hz:∀ i,m≤i→us[i]?.getD 0=0):vl 4294967296 us<4294967296^m:=by
 rw [vl_parts us m hm,vl_drop_zero us m hz,Nat.mul_zero,Nat.add_zero]
 exact vl_take_bound us m hm hx
theorem vl_top_word (us:List Nat) (m:Nat) (hm:m<us.length) (hz:∀ i,m+1≤i→us[i]?.getD 0=0):vl 4294967296 us=vl 4294967296 (us.take m)+4294967296^m*us[m]?.getD 0:=by
 rw [vl_parts us m (by omega),vl_drop 4294967296 us m hm,vl_drop_zero us (m+1) hz,Nat.mul_zero,Nat.add_zero]
theorem tops_of (us vs:List Nat) (j n:Nat) (hn:vs.length=n+2) (hj:j+(n+2)<us.length) (hu:∀ x ∈ us,x<4294967296) (hv:∀ x ∈ vs,x<4294967296) (hlt:vl 4294967296 us<vl 4294967296 vs*4294967296^j*4294967296) (hhi:2147483648≤vs[n+1]?.getD 0) :
  Tops (vl 4294967296 us) (vl 4294967296 vs*4294967296^j) (4294967296^(j+n)) (us[j+(n+2)]?.getD 0) (us[j+(n+2)-1]?.getD 0) (us[j+(n+2)-2]?.getD 0) (vs[n+1]?.getD 0) (vs[n]?.getD 0):=by
 have bu:=fun i=>mem_getD hu (by omega:0<4294967296) i
 have bv:=fun i=>mem_getD hv (by omega:0<4294967296) i
 have hV:=vl_lt (by omega:0<4294967296) vs hv
 have hS:vl 4294967296 us<4294967296^(j+(n+2)+1):=by
  refine Nat.lt_of_lt_of_le hlt ?_
  rw [show 4294967296^(j+(n+2)+1)=4294967296^(n+2)*4294967296^j*4294967296 from by rw [← Nat.pow_add,← Nat.pow_succ];congr 1;omega]
  rw [hn] at hV
  exact Nat.mul_le_mul_right _ (Nat.mul_le_mul_right _ (Nat.le_of_lt hV))
 have hz:=vl_high_zero us _ hS
 refine ⟨⟨vl 4294967296 (us.take (j+n)),?_,vl_take_bound us _ (by omega) hu⟩,⟨vl 4294967296 (vs.take n)*4294967296^j,?_,?_⟩,hlt,hhi,bv _,bv _,bu _,bu _⟩
 ·rw [vl_parts us (j+n) (by omega),vl_drop _ us (j+n) (by omega),vl_drop _ us (j+n+1) (by omega),vl_drop _ us (j+n+1+1) (by omega),vl_drop_zero us (j+n+1+1+1) (fun i hi=>hz i (by omega))]
  rw [show j+(n+2)=j+n+1+1 from by omega,show j+n+1+1-1=j+n+1 from by omega,show j+n+1+1-2=j+n from by omega]
  grind
 ·rw [vl_parts vs n (by omega),vl_drop _ vs n (by omega),vl_drop _ vs (n+1) (by omega),vl_drop_zero vs (n+1+1) (fun i hi=>by rw [List.getElem?_eq_none (by omega)];rfl),Nat.pow_add]
  grind
 ·rw [Nat.pow_add,Nat.mul_comm (4294967296^j)]
  exact Nat.mul_lt_mul_of_pos_right (vl_take_bound vs n (by omega) hv) (Nat.pow_pos (by omega))
theorem taken_fits {us0 us vs:List Nat} {j n c d g u:Nat} (h:Taken us0 us vs j n c d g) (hn:vs.length=n) (hj:j+n<us0.length) (hu:us[j+n]?.getD 0=u) (hge:c+d≤u) (hg:vl 4294967296 us0/(vl 4294967296 vs*4294967296^j)≤g) (hW:0<vl 4294967296 vs*4294967296^j) :
  g=vl 4294967296 us0/(vl 4294967296 vs*4294967296^j)∧vl 4294967296 (us.set (j+n) (u-c-d))=vl 4294967296 us0%(vl 4294967296 vs*4294967296^j):=by
 have h1:=vl_set 4294967296 us (j+n) (u-c-d) (by rw [h.len];exact hj)
 have h2:=h.val
 rw [hu] at h1
 rw [List.take_of_length_le (by omega)] at h2
 have e:vl 4294967296 (us.set (j+n) (u-c-d))+g*(vl 4294967296 vs*4294967296^j)=vl 4294967296 us0:=by
  obtain ⟨z,hz⟩:∃ z,u=c+d+z:=⟨u-(c+d),by omega⟩
  rw [show u-c-d=z from by omega] at h1 ⊢
  subst hz
  generalize vl 4294967296 (us.set (j+n) z)=X at *
  generalize vl 4294967296 us=Y at *
  generalize vl 4294967296 us0=S at *
  generalize (4294967296:Nat)^(j+n)=Q at *
  generalize (4294967296:Nat)^j=P at *
  grind
 generalize vl 4294967296 vs*4294967296^j=W at *
 generalize vl 4294967296 us0=S at *
 have hq:g≤S/W:=by rw [Nat.le_div_iff_mul_le hW];omega
 have hqe:g=S/W:=Nat.le_antisymm hq hg
 refine ⟨hqe,?_⟩
 have h3:=Nat.div_add_mod S W
 rw [← hqe,Nat.mul_comm] at h3
 omega
theorem taken_over {us0 us vs:List Nat} {j n c d g u:Nat} (h:Taken us0 us vs j n c d g) (hn:vs.length=n) (hj:j+n<us0.length) (hu:us[j+n]?.getD 0=u) (hlt:u<c+d) (hg:g=vl 4294967296 us0/(vl 4294967296 vs*4294967296^j)∨g=vl 4294967296 us0/(vl 4294967296 vs*4294967296^j)+1) (hS:vl 4294967296 us0<4294967296^(j+n+1)) :
  g=vl 4294967296 us0/(vl 4294967296 vs*4294967296^j)+1∧vl 4294967296 (us.set (j+n) (u+4294967296-(c+d)))+vl 4294967296 vs*4294967296^j=vl 4294967296 us0%(vl 4294967296 vs*4294967296^j)+4294967296^(j+n+1)∧(∀ x ∈ us.set (j+n) (u+4294967296-(c+d)),x<4294967296)∧(∀ i,j+n+1≤i→(us.set (j+n) (u+4294967296-(c+d)))[i]?.getD 0=0):=by
 have hc:=h.car
 have hd:=h.bor
 have hl:=h.len
 have hz:=vl_high_zero us0 _ hS
 have hm':∀ x ∈ us.set (j+n) (u+4294967296-(c+d)),x<4294967296:=mem_set h.mem _ _ (by omega)
 have hz':∀ i,j+n+1≤i→(us.set (j+n) (u+4294967296-(c+d)))[i]?.getD 0=0:=fun i hi=>by
  rw [List.getElem?_set_ne (by omega),h.same i (by omega)];exact hz i hi
 have hlt':=vl_low_lt (us.set (j+n) (u+4294967296-(c+d))) (j+n+1) (by rw [List.length_set,hl];omega) hm' hz'
 have h1:=vl_set 4294967296 us (j+n) (u+4294967296-(c+d)) (by rw [h.len];exact hj)
 have h2:=h.val
 rw [hu] at h1
 rw [List.take_of_length_le (by omega)] at h2
 have e:vl 4294967296 (us.set (j+n) (u+4294967296-(c+d)))+g*(vl 4294967296 vs*4294967296^j)=vl 4294967296 us0+4294967296^(j+n+1):=by
  obtain ⟨z,hz⟩:∃ z,z+(c+d)=u+4294967296:=⟨u+4294967296-(c+d),by omega⟩
  rw [show u+4294967296-(c+d)=z from by omega] at h1 ⊢
  rw [Nat.pow_succ]
  generalize vl 4294967296 (us.set (j+n) z)=X at *
  generalize vl 4294967296 us=Y at *
  generalize vl 4294967296 us0=S at *
  generalize (4294967296:Nat)^(j+n)=Q at *
  generalize (4294967296:Nat)^j=P at *
  have e2:(z+(c+d))*Q=(u+4294967296)*Q:=by rw [hz]
  grind
 refine ⟨?_,?_,hm',hz'⟩
 ·rcases hg with hg | hg
  ·exfalso
   have h3:=Nat.div_mul_le_self (vl 4294967296 us0) (vl 4294967296 vs*4294967296^j)
   rw [← hg] at h3
   omega
  ·exact hg
 ·have hg':g=vl 4294967296 us0/(vl 4294967296 vs*4294967296^j)+1:=by
   rcases hg with hg | hg
   ·exfalso
    have h3:=Nat.div_mul_le_self (vl 4294967296 us0) (vl 4294967296 vs*4294967296^j)
    rw [← hg] at h3
    omega
   ·exact hg
  have h3:=Nat.div_add_mod (vl 4294967296 us0) (vl 4294967296 vs*4294967296^j)
  rw [hg',Nat.succ_mul] at e
  rw [Nat.mul_comm] at h3
  omega
theorem back_fin {us0 us vs:List Nat} {j n c R W:Nat} (h:Back us0 us vs j n c) (hn:vs.length=n) (hj:j+n<us0.length) (hz:∀ i,j+n+1≤i→us0[i]?.getD 0=0) (hW:W=vl 4294967296 vs*4294967296^j) (hWl:W≤4294967296^(j+n)) (hR:R<W) (e:vl 4294967296 us0+W=R+4294967296^(j+n+1)) :
  us[j+n]?.getD 0+c=4294967296∧vl 4294967296 (us.set (j+n) 0)=R:=by
 have h2:=h.val
 have hl:=h.len
 rw [List.take_of_length_le (by omega)] at h2
 have hz':∀ i,j+n+1≤i→us[i]?.getD 0=0:=fun i hi=>by rw [h.same i (by omega)];exact hz i hi
 have ht:=vl_top_word us (j+n) (by omega) hz'
 have hlo:=vl_take_bound us (j+n) (by omega) h.mem
 have h1:=vl_set 4294967296 us (j+n) 0 (by omega)
 rw [Nat.zero_mul,Nat.add_zero] at h1
 generalize us[j+n]?.getD 0=t at *
 rw [Nat.pow_succ] at e
 rw [Nat.mul_comm (4294967296^j),← hW] at h2
 generalize vl 4294967296 (us.take (j+n))=L at *
 generalize vl 4294967296 (us.set (j+n) 0)=X at *
 generalize vl 4294967296 us=Y at *
 generalize vl 4294967296 us0=S at *
 generalize (4294967296:Nat)^(j+n)=Q at *
 have e2:L+Q*(t+c)=R+Q*4294967296:=by grind
 have htc:t+c=4294967296:=by
  rcases Nat.lt_trichotomy (t+c) 4294967296 with hc | hc | hc
  ·exfalso
   have:Q*(t+c+1)≤Q*4294967296:=Nat.mul_le_mul_left _ hc
   rw [Nat.mul_succ] at this
   omega
  ·exact hc
  ·exfalso
   have:Q*(4294967296+1)≤Q*(t+c):=Nat.mul_le_mul_left _ hc
   rw [Nat.mul_succ] at this
   omega
 refine ⟨htc,?_⟩
 rw [htc] at e2
 have:t*Q=Q*t:=Nat.mul_comm _ _
 omega
structure Long (A V:Nat) (us qs:List Nat) (t:Nat):Prop where
 um:∀ x ∈ us,x<4294967296
 qm:∀ x ∈ qs,x<4294967296
 lt:vl 4294967296 us<V*4294967296^t
 zero:∀ j,j<t→qs[j]?.getD 0=0
 val:vl 4294967296 us+V*vl 4294967296 qs=A
theorem Long.step {A V:Nat} {us us' qs:List Nat} {j q:Nat} (h:Long A V us qs (j+1)) (hq:j<qs.length) (hq1:q=vl 4294967296 us/(V*4294967296^j)) (hV:0<V) (hm:∀ x ∈ us',x<4294967296) (hu:vl 4294967296 us'=vl 4294967296 us%(V*4294967296^j)):Long A V us' (qs.set j q) j:=by
 have hW:0<V*4294967296^j:=Nat.mul_pos hV (Nat.pow_pos (by omega))
 have hqB:q<4294967296:=by
  rw [hq1]
  refine Nat.div_lt_of_lt_mul ?_
  have:=h.lt
  rw [Nat.pow_succ,← Nat.mul_assoc] at this
  exact this
 refine ⟨hm,mem_set h.qm _ _ hqB,by rw [hu];exact Nat.mod_lt _ hW,fun i hi=>by rw [List.getElem?_set_ne (by omega)];exact h.zero i (by omega),?_⟩
 rw [vl_set0 _ qs j q hq (h.zero j (by omega)),hu]
 have h1:=Nat.div_add_mod (vl 4294967296 us) (V*4294967296^j)
 rw [← hq1] at h1
 have h2:=h.val
 generalize vl 4294967296 us%(V*4294967296^j)=R at *
 generalize vl 4294967296 us=S at *
 generalize vl 4294967296 qs=Z at *
 generalize (4294967296:Nat)^j=P at *
 grind
theorem Long.fin {A V:Nat} {us qs:List Nat} (h:Long A V us qs 0):vl 4294967296 qs=A/V∧vl 4294967296 us=A%V:=by
 have h1:=h.lt
 rw [Nat.pow_zero,Nat.mul_one] at h1
 have h2:=h.val
 have hV:0<V:=by omega
 constructor
 ·rw [← h2,Nat.add_mul_div_left _ _ hV,Nat.div_eq_of_lt h1,Nat.zero_add]
 ·rw [← h2,Nat.add_mul_mod_self_left,Nat.mod_eq_of_lt h1]
end Go.Proofs.YteipfplbcbaheaaGreatDoor

namespace Go.Proofs.YteipfplbcbaheaaGreatDoor
open Go.RowKit
set_option maxHeartbeats 4000000
set_option maxRecDepth 100000
theorem above_len (X R n:Nat) (hX:0<X) (hR:R < 18446744073709551616^n):(wd 18446744073709551616 (X * 18446744073709551616^n+R)).length=(wd 18446744073709551616 X).length+n:=by
 have hp:0 < 18446744073709551616^n:=Nat.pow_pos (by omega)
 have h1:(X * 18446744073709551616^n+R) / 18446744073709551616^n=X:=by
  rw [Nat.mul_comm,Nat.mul_add_div hp,Nat.div_eq_of_lt hR,Nat.add_zero]
 have h2:=wd_len_div n (X * 18446744073709551616^n+R)
 rw [h1] at h2
 have h3:(wd 18446744073709551616 X).length≠0:=fun e=>by rw [wd_len_zero (by omega)] at e;omega
 omega
theorem above_words (X R n:Nat) (hX:0<X) (hR:R < 18446744073709551616^n) (zs:List Nat) (hz:∀ x ∈ zs,x=0) (hl:(wd 18446744073709551616 R).length+zs.length=n):wd 18446744073709551616 R++zs++wd 18446744073709551616 X=wd 18446744073709551616 (X * 18446744073709551616^n+R):=by
 have hv0:vl 18446744073709551616 zs=0:=vl_zeros 18446744073709551616 zs (fun j hj=>by
  have:=hz zs[j] (List.getElem_mem hj)
  rw [List.getElem?_eq_getElem hj];exact this)
 refine vl_ext (B:=18446744073709551616) (by omega) _ _ ?_ ?_ (wd_mem (by omega) _) ?_
 ·rw [above_len X R n hX hR,List.length_append,List.length_append,hl,Nat.add_comm]
 ·intro x hx
  rw [List.mem_append,List.mem_append] at hx
  rcases hx with (hx | hx) | hx
  ·exact wd_mem (by omega) _ x hx
  ·rw [hz x hx];omega
  ·exact wd_mem (by omega) _ x hx
 ·rw [vl_append,vl_append,hv0,vl_wd (by omega),vl_wd (by omega),vl_wd (by omega),List.length_append,hl,Nat.mul_zero,Nat.add_zero,Nat.mul_comm,Nat.add_comm]
theorem above_nums (nx n:Nat) (h0:0<nx) (h:nx+n<2147483648):(0:Int)≤(n:Int)∧(n:Int)<((nx+n:Nat):Int)∧nx+n-n=nx∧(n:Int)<(nx:Int)+(n:Int)∧(n:Int)≤(nx:Int)+(n:Int)∧((nx:Int)==0)=false∧IntKind.i64.wrap ((nx:Int)+(n:Int))=(nx:Int)+(n:Int)∧wrap64 ((nx:Int)+(n:Int))=(nx:Int)+(n:Int):=by
 refine ⟨by omega,by omega,by omega,by omega,by omega,by simp;omega,by rw [IntKind.wrap_i64];omega,by unfold wrap64;omega⟩
theorem natAbove_any (vx vr:Value) (X R n:Nat) (w:World) (hx:Sl .u64 w vx (wd 18446744073709551616 X)) (hr:Sl .u64 w vr (wd 18446744073709551616 R)) (hR:R < 18446744073709551616^n) (hl:(wd 18446744073709551616 X).length+n<134217728) :
  Calls Tryz.prog 241 #[vx,.int .i64 (n:Int),vr] w fun e w'=>∃ v',e=.returned v'∧Sl .u64 w' v' (wd 18446744073709551616 (X * 18446744073709551616^n+R))∧But [] w w'∧((X=0∧v'=vr)∨Own w.heap.size w' v'):=by
 rcases Nat.eq_zero_or_pos X with h0 | h0
 ·subst h0
  rw [wd_zero] at hx
  have HR:=hide hr
  obtain ⟨a1,c1,rfl,-,-⟩:=hx
  obtain ⟨a2,c2,rfl,-,-⟩:=hr
  go_enter Tryz.func241,Tryz.ntmps241
  go_wp2
  go_ret
  exact ⟨_,rfl,by rw [Nat.zero_mul,Nat.zero_add];exact unhide HR,But.refl _ _,.inl (by simp)⟩
 ·have hlr:(wd 18446744073709551616 R).length≤n:=wd_length_le (by omega) R n hR
  have hxp:0<(wd 18446744073709551616 X).length:=by rw [Nat.pos_iff_ne_zero];intro e;rw [wd_len_zero (by omega)] at e;omega
  obtain ⟨nx,hnx⟩:∃ nx,nx=(wd 18446744073709551616 X).length:=⟨_,rfl⟩
  have SM:=Seg.made w (nx+n) 24
  have bM:=but_made w (nx+n) 24
  obtain ⟨w2,hcp,HC⟩:=run_copy_seg (P:=Tryz.prog) (w.alloc (.cells (madeCells #[.int .u64 0] (nx+n)) 24)) 94 95 24 Tryz.underlying94 size_u64 w.heap.size 0 (nx+n) (nx+n) vr (List.replicate (nx+n) 0) (wd 18446744073709551616 R) SM (by simp) (hr.but_nil bM) (by simp;omega)
  obtain ⟨r1,hr1⟩:∃ r1,r1=wd 18446744073709551616 R++(List.replicate (nx+n) 0).drop (wd 18446744073709551616 R).length:=⟨_,rfl⟩
  have hr1l:r1.length=nx+n:=by rw [hr1];simp;omega
  rw [← hr1] at HC
  have b2:But [] w w2:=bM.trans (unhide HC).2.but (fun x hx=>by simp at hx;subst hx;exact .inr (Nat.le_refl _))
  have S2:=(unhide HC).1.sub n nx (by omega)
  have hsl:((r1.drop n).take nx).length=nx:=by rw [List.length_take,List.length_drop,hr1l];omega
  obtain ⟨w3,hcp2,HC2⟩:=run_copy_seg (P:=Tryz.prog) w2 94 95 24 Tryz.underlying94 size_u64 w.heap.size (0+n) nx nx vx ((r1.drop n).take nx) (wd 18446744073709551616 X) S2 hsl.symm (hx.but_nil b2) (by rw [hsl,hnx];exact Nat.le_refl _)
  have hd0:((r1.drop n).take nx).drop (wd 18446744073709551616 X).length=[]:=List.drop_eq_nil_of_le (by rw [hsl,hnx];exact Nat.le_refl _)
  rw [hd0,List.append_nil] at HC2
  have SW:=(unhide HC).1.whole (unhide HC2).2 (unhide HC2).1 rfl (by rw [hr1l,← hnx];omega)
  have b3:But [] w w3:=b2.trans (unhide HC2).2.but (fun x hx=>by simp at hx;subst hx;exact .inr (Nat.le_refl _))
  have et:r1.take n=wd 18446744073709551616 R++((List.replicate (nx+n) 0).drop (wd 18446744073709551616 R).length).take (n-(wd 18446744073709551616 R).length):=by
   rw [hr1,List.take_append,List.take_of_length_le hlr]
  have ed:r1.drop (n+(wd 18446744073709551616 X).length)=[]:=List.drop_eq_nil_of_le (by rw [hr1l,hnx];omega)
  rw [Nat.zero_add,ed,List.append_nil,et,above_words X R n h0 hR _ (fun x hx=>by
   have:=List.mem_of_mem_drop (List.mem_of_mem_take hx)
   exact (List.mem_replicate.1 this).2) (by simp;omega)] at SW
  have hlen:=above_len X R n h0 hR
  have SL:=SW.sl (nx+n) (by rw [hlen,hnx];exact Nat.le_refl _)
  rw [hlen,← hnx] at SL
  have OW:Own w.heap.size w3 (.slice (some ⟨w.heap.size,0,none⟩) (nx+n) (nx+n)):=fun b off m c e=>by
   simp only [Value.slice.injEq,Option.some.injEq,Addr.mk.injEq] at e
   obtain ⟨⟨rfl,rfl,-⟩,rfl,-⟩:=e
   exact ⟨Nat.le_refl _,fun i hi=>(SW i (by rw [hlen,← hnx];exact hi)).2⟩
  have FIN:=hide (And.intro SL (And.intro b3 OW))
  have hlt:nx+n<2147483648:=by rw [hnx];exact Nat.lt_trans hl (by decide)
  have hmk:∀ wx,(Instr.makeSlice 94 (.int .i64 ((nx:Int)+(n:Int))) (.int .i64 ((nx:Int)+(n:Int)))).run Tryz.prog wx=.ok (.slice (some ⟨wx.heap.size,0,none⟩) (nx+n) (nx+n)) (wx.alloc (.cells (madeCells #[.int .u64 0] (nx+n)) 24)):=fun wx=>by
   have h:=run_make64 wx (nx+n) hlt
   rw [Int.natCast_add] at h
   exact h
  have hnxp:0<nx:=by rw [hnx];exact hxp
  obtain ⟨i1,i2,i3,i4,i5,hn0,ew,ew2⟩:=above_nums nx n hnxp hlt
  obtain ⟨a1,c1,rfl,-,-⟩:=hx
  obtain ⟨a2,c2,rfl,-,-⟩:=hr
  rw [← hnx] at hcp2 ⊢
  generalize (wd 18446744073709551616 R).length=nr at *
  rw [Nat.zero_add] at hcp2
  clear SM bM HC HC2 S2 hsl hd0 SW et ed SL OW b2 b3 hr1 hr1l hlen hxp hnx hnxp
  go_enter Tryz.func241,Tryz.ntmps241
  go_wp2
  go_ret
  exact ⟨_,rfl,(unhide FIN).1,(unhide FIN).2.1,.inr (unhide FIN).2.2⟩
end Go.Proofs.YteipfplbcbaheaaGreatDoor

namespace Go.Proofs.YteipfplbcbaheaaGreatDoor
open Go.RowKit
set_option maxHeartbeats 2000000
set_option maxRecDepth 100000
def Heir (w:World) (vx:Value) (w':World) (v:Value):Prop:=∀ b off n c,v=.slice (some ⟨b,off,none⟩) n c →
 (w.heap.size≤b∧∀ i,i<n→w'.frozen? ⟨b,off+i,none⟩=false)∨∃ off0 n0 c0,vx=.slice (some ⟨b,off0,none⟩) n0 c0∧off0≤off∧off+n≤off0+n0
theorem Heir.self (w:World) (v:Value) (w':World):Heir w v w' v:=fun _ off n c e=>.inr ⟨off,n,c,e,Nat.le_refl _,Nat.le_refl _⟩
theorem Heir.of_own {w w':World} {vx v:Value} (h:Own w.heap.size w' v):Heir w vx w' v:=fun b off n c e=>.inl (h b off n c e)
theorem Heir.nil (w:World) (vx:Value) (w':World) (m c:Nat):Heir w vx w' (.slice none m c):=fun _ _ _ _ e=>by simp at e
theorem Sl.len_eq {k:IntKind} {w:World} {v:Value} {xs:List Nat} (h:Sl k w v xs) {a:Option Addr} {n c:Nat} (e:v=.slice a n c):n=xs.length:=by
 obtain ⟨a1,c1,e1,-⟩:=h
 rw [e] at e1
 exact (Value.slice.inj e1).2.1
theorem Heir.but {w w1 w2:World} {vx v1:Value} {xs:List Nat} (h:Heir w vx w1 v1) (hs:Sl .u64 w1 v1 xs) (hb:But [] w1 w2):Heir w vx w2 v1:=fun b off n c e=>by
 rcases h b off n c e with ⟨h1,h2⟩ | h1
 ·refine .inl ⟨h1,fun i hi=>?_⟩
  have hn:=hs.len_eq e
  have hl:=hs.lt (by omega) b off n c e
  rw [hb.frozen (p:=⟨b,off+i,none⟩) hl (by simp)]
  exact h2 i hi
 ·exact .inr h1
theorem Heir.pre {w W w':World} {vx v:Value} (h:Heir W vx w' v) (hs:w.heap.size≤W.heap.size):Heir w vx w' v:=fun b off n c e=>by
 rcases h b off n c e with ⟨h1,h2⟩ | h1
 ·exact .inl ⟨Nat.le_trans hs h1,h2⟩
 ·exact .inr h1
theorem Heir.trans {w w1 w2:World} {vx v1 v2:Value} {xs:List Nat} (h:Heir w vx w1 v1) (hs:Sl .u64 w1 v1 xs) (hb:But [] w1 w2) (hw:w.heap.size≤w1.heap.size) (k:Heir w1 v1 w2 v2):Heir w vx w2 v2:=fun b off n c e=>by
 rcases k b off n c e with ⟨h1,h2⟩ | ⟨o0,n0,c0,e0,h3,h4⟩
 ·exact .inl ⟨Nat.le_trans hw h1,h2⟩
 ·rcases (h.but hs hb) b o0 n0 c0 e0 with ⟨h5,h6⟩ | ⟨o1,n1,c1,e1,h7,h8⟩
  ·refine .inl ⟨h5,fun i hi=>?_⟩
   have:=h6 (off-o0+i) (by omega)
   rwa [show o0+(off-o0+i)=off+i from by omega] at this
  ·exact .inr ⟨o1,n1,c1,e1,by omega,by omega⟩
theorem Heir.own {lo:Nat} {w w':World} {vx v:Value} {xs:List Nat} (h:Heir w vx w' v) (ho:Own lo w vx) (hlo:lo≤w.heap.size) (hs:Sl .u64 w vx xs) (hb:But [] w w'):Own lo w' v:=fun b off n c e=>by
 rcases h b off n c e with ⟨h1,h2⟩ | ⟨o0,n0,c0,e0,h3,h4⟩
 ·exact ⟨Nat.le_trans hlo h1,h2⟩
 ·refine ⟨(ho _ _ _ _ e0).1,fun i hi=>?_⟩
  have hn:=hs.len_eq e0
  have hl:=hs.lt (by omega) b o0 n0 c0 e0
  rw [hb.frozen (p:=⟨b,off+i,none⟩) hl (by simp)]
  have:=(ho _ _ _ _ e0).2 (off-o0+i) (by omega)
  rwa [show o0+(off-o0+i)=off+i from by omega] at this
theorem natLow_at (v:Value) (X n:Nat) (w:World) (hv:Sl .u64 w v (wd 18446744073709551616 X)) (hl:(wd 18446744073709551616 X).length<2147483648) (hn:n<2147483648) :
  Calls Tryz.prog 193 #[v,.int .i64 (n:Int)] w fun e w'=>∃ v',e=.returned v'∧Sl .u64 w v' (wd 18446744073709551616 (X % 18446744073709551616^n))∧w'=w∧Heir w v w v':=by
 by_cases hle:(wd 18446744073709551616 X).length≤n
 ·have e:X % 18446744073709551616^n=X:=Nat.mod_eq_of_lt (lt_of_wd_length (by omega) X n hle)
  rw [e]
  have HV:=hide hv
  obtain ⟨a,c,rfl,-,-⟩:=hv
  clear e
  generalize (wd 18446744073709551616 X).length=l at *
  go_enter Tryz.func193,Tryz.ntmps193
  go_wp2
  go_ret
  exact ⟨_,rfl,unhide HV,rfl,Heir.self _ _ _⟩
 ·rcases hv.open with ⟨e,-⟩ | ⟨h0,b,off,c,rfl,hc,-,-⟩
  ·rw [e] at hle;simp at hle
  have ht:=trimmed_any (.slice (some ⟨b,off,none⟩) n c) ((wd 18446744073709551616 X).take n) w (hv.take n c (by omega) (by omega)) (fun x hx=>wd_mem (by omega) X x (List.mem_of_mem_take hx)) (by rw [List.length_take];omega)
  rw [wd_take] at ht
  have HT:=hide ht
  have LM:=hide (wd_len_mod n X)
  clear ht hv
  generalize (wd 18446744073709551616 X).length=l at *
  have hnl:n<l:=by omega
  have hnc:n≤c:=by omega
  go_enter Tryz.func193,Tryz.ntmps193
  go_wp2_with fail
  refine (unhide HT).mono ?_
  rintro e w1 ⟨v',rfl,h1,hw,hsb⟩
  obtain rfl:=hw.symm
  clear hw
  have HH:Hid (Heir w (.slice (some ⟨b,off,none⟩) l c) w v'):=fun b1 off1 n1 c1 e1=>by
   have hn1:=h1.len_eq e1
   have hlm:=unhide LM
   obtain ⟨n',c',e'⟩:=hsb b1 off1 n1 c1 e1
   simp only [Value.slice.injEq,Option.some.injEq,Addr.mk.injEq] at e'
   obtain ⟨⟨rfl,rfl,-⟩,-,-⟩:=e'
   exact .inr ⟨_,_,_,rfl,Nat.le_refl _,by omega⟩
  have H1:=hide h1
  clear h1 hsb
  go_wp2
  go_ret
  exact ⟨v',rfl,unhide H1,rfl,unhide HH⟩
theorem natHigh_at (v:Value) (X n:Nat) (w:World) (hv:Sl .u64 w v (wd 18446744073709551616 X)) (hn:n<2147483648) :
  Calls Tryz.prog 194 #[v,.int .i64 (n:Int)] w fun e w'=>∃ v',e=.returned v'∧Sl .u64 w v' (wd 18446744073709551616 (X / 18446744073709551616^n))∧w'=w∧Heir w v w v':=by
 by_cases hle:(wd 18446744073709551616 X).length≤n
 ·have e:X / 18446744073709551616^n=0:=Nat.div_eq_of_lt (lt_of_wd_length (by omega) X n hle)
  rw [e,wd_zero]
  obtain ⟨a,c,rfl,-,-⟩:=hv
  clear e
  generalize (wd 18446744073709551616 X).length=l at *
  go_enter Tryz.func194,Tryz.ntmps194
  go_wp2
  go_ret
  exact ⟨_,rfl,Sl.nil _ _,rfl,Heir.nil _ _ _ _ _⟩
 ·rcases hv.open with ⟨e,-⟩ | ⟨h0,b,off,c,rfl,hc,-,-⟩
  ·rw [e] at hle;simp at hle
  have HR:=hide (hv.drop n ((wd 18446744073709551616 X).length-n) (c-n) rfl (by omega))
  rw [wd_drop] at HR
  clear hv
  generalize (wd 18446744073709551616 X).length=l at *
  have hnl:n<l:=by omega
  have hnc:n<c:=by omega
  go_enter Tryz.func194,Tryz.ntmps194
  go_wp2
  go_ret
  refine ⟨_,rfl,unhide HR,rfl,fun b1 off1 n1 c1 e1=>?_⟩
  simp only at e1
  obtain ⟨⟨rfl,rfl,-⟩,rfl,-⟩:=e1
  exact .inr ⟨_,_,_,rfl,by omega,by omega⟩
theorem natSub_own (va vb:Value) (xs ys:List Nat) (w:World) (ha:Sl .u64 w va xs) (hb:Sl .u64 w vb ys) (mx:∀ x ∈ xs,x < 18446744073709551616) (my:∀ x ∈ ys,x < 18446744073709551616) (hle:ys.length≤xs.length) (h0:0<ys.length) (hl:xs.length<1073741824) (hv:vl 18446744073709551616 ys≤vl 18446744073709551616 xs) :
  Calls Tryz.prog 135 #[va,vb] w fun e w'=>∃ v',e=.returned v'∧Sl .u64 w' v' (wd 18446744073709551616 (vl 18446744073709551616 xs-vl 18446744073709551616 ys))∧But [] w w'∧Own w.heap.size w' v':=by
 obtain ⟨b1,o1,c1,rfl,hc1⟩:∃ b o c,va=.slice (some ⟨b,o,none⟩) xs.length c∧xs.length≤c:=by
  rcases ha.open with ⟨rfl,-⟩ | ⟨-,b,o,c,e,h,-⟩
  ·simp only [List.length_nil] at hle;omega
  ·exact ⟨b,o,c,e,h⟩
 obtain ⟨b2,o2,c2,rfl,hc2⟩:∃ b o c,vb=.slice (some ⟨b,o,none⟩) ys.length c∧ys.length≤c:=by
  rcases hb.open with ⟨rfl,-⟩ | ⟨-,b,o,c,e,h,-⟩
  ·simp at h0
  ·exact ⟨b,o,c,e,h⟩
 have n0:((ys.length:Int)==0)=false:=beq_eq_false_iff_ne.2 (by omega)
 have hmk:=fun wx=>run_make64 wx xs.length (by omega)
 have hof:Off w.heap.size (.slice (some ⟨b2,o2,none⟩) ys.length c2):=off_fresh hb h0 _ (Nat.le_refl _)
 obtain ⟨w2,hcp,HC⟩:=run_copy_seg (P:=Tryz.prog) (w.alloc (.cells (madeCells #[.int .u64 0] xs.length) 24)) 94 95 24 Tryz.underlying94 size_u64 w.heap.size 0 xs.length xs.length _ (List.replicate xs.length 0) xs (Seg.made _ _ _) (by simp) (ha.but_nil (but_made _ _ _)) (by simp)
 have e1:xs++(List.replicate xs.length 0).drop xs.length=xs:=by simp
 rw [e1] at HC
 have hB2:Hid (But [] w w2):=((but_made w xs.length 24).trans (unhide HC).2.but (fun x hx=>by simp at hx;subst hx;exact .inr (Nat.le_refl _)))
 have hsub:=subFrom_any w.heap.size 0 xs.length xs ys (.slice (some ⟨b2,o2,none⟩) ys.length c2) w2 (unhide HC).1 (by omega) (hb.but_nil (unhide hB2)) (fun _=>hof) mx my (by omega) (by omega)
 have HSUB:=hide hsub
 have HV:=hide hv
 clear ha hb mx my hof hsub HC e1 hv
 go_enter Tryz.func135,Tryz.ntmps135
 go_wp2_with fail
 refine (unhide HSUB).mono ?_
 rintro e w3 ⟨c,rs',rfl,hc,hlr,hmr,hv,hsg,hpt⟩
 have hV:=wd_sub_fin xs ys rs' c hmr (unhide HV) hlr hv
 have HV:=hide hV
 clear hV hv
 have hB3:Hid (But [] w w3):=(unhide hB2).trans hpt.but (fun x hx=>by simp at hx;subst hx;exact .inr (Nat.le_refl _))
 have hsl:=hsg.sl xs.length (by omega)
 rw [hlr] at hsl
 have HS:=hide hsl
 have SG:=hide hsg
 have LW:Hid ((wd 18446744073709551616 (vl 18446744073709551616 rs')).length≤rs'.length):=wd_length_le (by omega) _ _ (vl_lt (by omega) rs' hmr)
 clear hsl hsg hpt HSUB
 go_wp2_with fail
 refine (trimmed_any _ rs' _ (unhide HS) hmr (by omega)).mono ?_
 rintro e w4 ⟨v',rfl,hs4,hw4,hsb⟩
 obtain rfl:=hw4.symm
 clear hw4
 have OW:=hide (own_of (unhide SG) hsb hs4 (unhide LW) (Nat.le_refl _))
 have H4:=hide hs4
 clear hs4 hsb
 go_wp2
 go_ret
 exact ⟨v',rfl,by rw [← unhide HV];exact unhide H4,unhide hB3,unhide OW⟩
theorem natSub_at (va vb:Value) (m n:Nat) (w:World) (ha:Sl .u64 w va (wd 18446744073709551616 m)) (hb:Sl .u64 w vb (wd 18446744073709551616 n)) (hla:(wd 18446744073709551616 m).length<1073741824) (hmn:n≤m) :
  Calls Tryz.prog 135 #[va,vb] w fun e w'=>∃ v',e=.returned v'∧Sl .u64 w' v' (wd 18446744073709551616 (m-n))∧But [] w w'∧((n=0∧v'=va)∨Own w.heap.size w' v'):=by
 rcases Nat.eq_zero_or_pos n with h0 | h0
 ·subst h0
  rw [wd_zero] at hb
  have HR:=hide ha
  obtain ⟨a1,c1,rfl,-,-⟩:=ha
  obtain ⟨a2,c2,rfl,-,-⟩:=hb
  go_enter Tryz.func135,Tryz.ntmps135
  go_wp2
  go_ret
  exact ⟨_,rfl,unhide HR,But.refl _ _,.inl (by simp)⟩
 ·have em:=vl_wd (B:=18446744073709551616) (by omega) m
  have en:=vl_wd (B:=18446744073709551616) (by omega) n
  have hl:(wd 18446744073709551616 n).length≤(wd 18446744073709551616 m).length:=wd_length_le (by omega) n _ (Nat.lt_of_le_of_lt hmn (lt_of_wd_length (by omega) m _ (Nat.le_refl _)))
  have hp:0<(wd 18446744073709551616 n).length:=by
   rw [Nat.pos_iff_ne_zero];intro h;rw [wd_len_zero (by omega)] at h;omega
  have:=natSub_own va vb _ _ w ha hb (wd_mem (by omega) m) (wd_mem (by omega) n) hl hp hla (by rw [em,en];exact hmn)
  rw [em,en] at this
  exact this.mono fun e w' ⟨v',h1,h2,h3,h4⟩=>⟨v',h1,h2,h3,.inr h4⟩
end Go.Proofs.YteipfplbcbaheaaGreatDoor

namespace Go.Proofs.YteipfplbcbaheaaGreatDoor
theorem quo_rem_of {X Y q r:Nat} (h:X=q*Y+r) (hr:r<Y):X/Y=q∧X%Y=r:=by
 subst h
 have hY:0<Y:=by omega
 constructor
 ·rw [Nat.mul_comm,Nat.mul_add_div hY,Nat.div_eq_of_lt hr,Nat.add_zero]
 ·rw [Nat.mul_comm,Nat.mul_add_mod,Nat.mod_eq_of_lt hr]
structure Mended (X Y T q m:Nat):Prop where
 eq:X+T=q*Y+m
 lt:m<T+Y
theorem Mended.start (X Y P:Nat) (hP:0<P) (hY:0<Y/P):Mended X Y (X/P/(Y/P)*(Y%P)) (X/P/(Y/P)) (X/P%(Y/P)*P+X%P):=by
 obtain ⟨YH,hYH⟩:∃ YH,YH=Y/P:=⟨_,rfl⟩
 obtain ⟨YL,hYL⟩:∃ YL,YL=Y%P:=⟨_,rfl⟩
 obtain ⟨XH,hXH⟩:∃ XH,XH=X/P:=⟨_,rfl⟩
 obtain ⟨XL,hXL⟩:∃ XL,XL=X%P:=⟨_,rfl⟩
 have e1:Y=P*YH+YL:=by rw [hYH,hYL];exact (Nat.div_add_mod Y P).symm
 have e2:X=P*XH+XL:=by rw [hXH,hXL];exact (Nat.div_add_mod X P).symm
 have l1:XL<P:=by rw [hXL];exact Nat.mod_lt _ hP
 rw [← hYH,← hYL,← hXH,← hXL]
 rw [← hYH] at hY
 have e3:=Nat.div_add_mod XH YH
 have l2:=Nat.mod_lt XH hY
 generalize XH/YH=q at *
 generalize XH%YH=r at *
 constructor
 ·rw [e2,e1,← e3];grind
 ·have h1:(r+1)*P≤YH*P:=Nat.mul_le_mul_right _ l2
  rw [e1]
  have h2:(r+1)*P=r*P+P:=Nat.succ_mul _ _
  have h3:YH*P=P*YH:=Nat.mul_comm _ _
  omega
theorem Mended.pos {X Y T q m:Nat} (h:Mended X Y T q m) (hm:m<T):0<q:=by
 rcases Nat.eq_zero_or_pos q with h0 | h0
 ·have:=h.eq
  rw [h0,Nat.zero_mul] at this
  omega
 ·exact h0
theorem Mended.next {X Y T q m:Nat} (h:Mended X Y T q m) (hm:m<T):Mended X Y T (q-1) (m+Y):=by
 have hq:=h.pos hm
 obtain ⟨p,rfl⟩:∃ p,q=p+1:=⟨q-1,by omega⟩
 have he:=h.eq
 rw [Nat.succ_mul] at he
 exact ⟨by rw [Nat.add_sub_cancel];omega,by omega⟩
theorem Mended.fin {X Y T q m:Nat} (h:Mended X Y T q m) (hm:T≤m):X/Y=q∧X%Y=m-T:=by
 have he:=h.eq
 have hl:=h.lt
 exact quo_rem_of (by omega) (by omega)
theorem halves (X Y P h r l s:Nat) (h1:X/P=h*Y+r) (h2:r*P+X%P=l*Y+s) (hs:s<Y):X/Y=h*P+l∧X%Y=s:=by
 refine quo_rem_of ?_ hs
 have e:=Nat.div_add_mod X P
 rw [h1] at e
 grind
end Go.Proofs.YteipfplbcbaheaaGreatDoor

namespace Go.Proofs.YteipfplbcbaheaaGreatDoor
open Go.RowKit
set_option maxHeartbeats 8000000
set_option maxRecDepth 100000
def DivideW (X Y:Nat):Prop:=∀ (vx vy:Value) (w:World),Sl .u64 w vx (wd 18446744073709551616 X)→Sl .u64 w vy (wd 18446744073709551616 Y) →
 Calls Tryz.prog 188 #[vx,vy] w fun e w'=>∃ v1 v2,e=.returned (.tuple #[v1,v2])∧Sl .u64 w' v1 (wd 18446744073709551616 (X/Y))∧Sl .u64 w' v2 (wd 18446744073709551616 (X%Y))∧But [] w w'∧Heir w vx w' v2
structure MendInv (w wr:World) (X Y T:Nat) (vx vy vt:Value) (vq vm:Value) (k Q M:Nat):Prop where
 q:Sl .u64 wr vq (wd 18446744073709551616 Q)
 m:Sl .u64 wr vm (wd 18446744073709551616 M)
 y:Sl .u64 wr vy (wd 18446744073709551616 Y)
 t:Sl .u64 wr vt (wd 18446744073709551616 T)
 inv:Mended X Y T Q M
 k:T-M=k
 but:But [] w wr
 heir:T=0→Heir w vx wr vm
theorem MendInv.len {w wr:World} {X Y T:Nat} {vx vy vt vq vm:Value} {k Q M n:Nat} (h:MendInv w wr X Y T vx vy vt vq vm k Q M) (hT:T < 18446744073709551616^n) (hY:Y < 18446744073709551616^n):(wd 18446744073709551616 M).length≤n+1 :=
 Nat.le_trans (wd_len_mono (Nat.le_of_lt h.inv.lt)) (wd_len_add T Y n hT hY)
theorem MendInv.qlen {w wr:World} {X Y T:Nat} {vx vy vt vq vm:Value} {k Q M n:Nat} (h:MendInv w wr X Y T vx vy vt vq vm k Q M) (hY0:0<Y) (hT:T < 18446744073709551616^n) (hX:X < 18446744073709551616^n):(wd 18446744073709551616 Q).length≤n+1:=by
 have h3:Q≤X+T:=by
  rw [h.inv.eq]
  exact Nat.le_trans (Nat.le_mul_of_pos_right Q hY0) (Nat.le_add_right _ _)
 exact Nat.le_trans (wd_len_mono h3) (wd_len_add X T n hX hT)
theorem divideMended_any (vx vy:Value) (X Y n:Nat) (w:World) (hx:Sl .u64 w vx (wd 18446744073709551616 X)) (hy:Sl .u64 w vy (wd 18446744073709551616 Y)) (hY:0<Y / 18446744073709551616^n) (hD:DivideW (X / 18446744073709551616^n) (Y / 18446744073709551616^n)) (hl:(wd 18446744073709551616 X).length+(wd 18446744073709551616 Y).length+n<33554432) :
  Calls Tryz.prog 242 #[vx,vy,.int .i64 (n:Int)] w fun e w'=>∃ v1 v2,e=.returned (.tuple #[v1,v2])∧Sl .u64 w' v1 (wd 18446744073709551616 (X/Y))∧Sl .u64 w' v2 (wd 18446744073709551616 (X%Y))∧But [] w w'∧Heir w vx w' v2:=by
 have hP:0 < 18446744073709551616^n:=Nat.pow_pos (by omega)
 have hY0:0<Y:=by
  rcases Nat.eq_zero_or_pos Y with h | h
  ·rw [h,Nat.zero_div] at hY;omega
  ·exact h
 have ST:=Mended.start X Y (18446744073709551616^n) hP hY
 obtain ⟨q0,hq0⟩:∃ q0,q0=X / 18446744073709551616^n/(Y / 18446744073709551616^n):=⟨_,rfl⟩
 obtain ⟨s0,hs0⟩:∃ s0,s0=X / 18446744073709551616^n%(Y / 18446744073709551616^n):=⟨_,rfl⟩
 obtain ⟨T,hT⟩:∃ T,T=q0*(Y % 18446744073709551616^n):=⟨_,rfl⟩
 rw [← hq0,← hs0,← hT] at ST
 have HX1:=hide (natHigh_any vx X n w hx (by omega) (by omega))
 have HY1:=hide (natHigh_any vy Y n w hy (by omega) (by omega))
 have ql:(wd 18446744073709551616 q0).length≤(wd 18446744073709551616 X).length:=wd_len_mono (by rw [hq0];exact Nat.le_trans (Nat.div_le_self _ _) (Nat.div_le_self _ _))
 have yl:(wd 18446744073709551616 (Y % 18446744073709551616^n)).length≤(wd 18446744073709551616 Y).length:=wd_len_mod' n Y
 have sl:(wd 18446744073709551616 s0).length≤(wd 18446744073709551616 Y).length:=wd_len_mono (by rw [hs0];exact Nat.le_trans (Nat.le_of_lt (Nat.mod_lt _ hY)) (Nat.div_le_self _ _))
 have tl:(wd 18446744073709551616 T).length≤(wd 18446744073709551616 X).length+(wd 18446744073709551616 Y).length:=by
  have:=wd_len_mul q0 (Y % 18446744073709551616^n)
  rw [hT];omega
 have DV:Hid (∀ W v1 v2,Sl .u64 W v1 (wd 18446744073709551616 (X / 18446744073709551616^n))→Sl .u64 W v2 (wd 18446744073709551616 (Y / 18446744073709551616^n))→Calls Tryz.prog 188 #[v1,v2] W fun e w'=>∃ v3 v4,e=.returned (.tuple #[v3,v4])∧Sl .u64 w' v3 (wd 18446744073709551616 q0)∧Sl .u64 w' v4 (wd 18446744073709551616 s0)∧But [] W w'):=by
  rw [hq0,hs0];exact fun W v1 v2 h1 h2=>(hD v1 v2 W h1 h2).mono fun e w' ⟨a,b,h3,h4,h5,h6,_⟩=>⟨a,b,h3,h4,h5,h6⟩
 have LX:=hide (fun W (h:Sl .u64 W vx (wd 18446744073709551616 X))=>natLow_at vx X n W h (by omega) (by omega))
 have LY:=hide (fun W (h:Sl .u64 W vy (wd 18446744073709551616 Y))=>natLow_any vy Y n W h (by omega) (by omega))
 have AB:=hide (fun W v1 v2 (h1:Sl .u64 W v1 (wd 18446744073709551616 s0)) (h2:Sl .u64 W v2 (wd 18446744073709551616 (X % 18446744073709551616^n)))=>natAbove_any v1 v2 s0 (X % 18446744073709551616^n) n W h1 h2 (Nat.mod_lt _ hP) (by omega))
 have MU:Hid (∀ W v1 v2,Sl .u64 W v1 (wd 18446744073709551616 q0)→Sl .u64 W v2 (wd 18446744073709551616 (Y % 18446744073709551616^n))→Calls Tryz.prog 68 #[v1,v2] W fun e w'=>∃ v',e=.returned v'∧Sl .u64 w' v' (wd 18446744073709551616 T)∧But [] W w'):=fun W v1 v2 h1 h2=>by
  rw [hT]
  exact (natMul_any v1 v2 q0 _ W h1 h2 (by omega)).mono fun e w' ⟨v',he,hv,hb,_⟩=>⟨v',he,hv,hb⟩
 have HX:=hide hx
 have HY:=hide hy
 have HS:=hide ST
 have pw:∀ Z l,(wd 18446744073709551616 Z).length≤l→l≤(wd 18446744073709551616 X).length+(wd 18446744073709551616 Y).length→Z < 18446744073709551616^((wd 18446744073709551616 X).length+(wd 18446744073709551616 Y).length):=fun Z l h1 h2=>Nat.lt_of_lt_of_le (lt_of_wd_length (by omega) Z l h1) (Nat.pow_le_pow_right (by omega) h2)
 have HL:=hide (And.intro (pw T _ tl (Nat.le_refl _)) (And.intro (pw X _ (Nat.le_refl _) (by omega)) (And.intro (pw Y _ (Nat.le_refl _) (by omega)) (And.intro hl hY0))))
 obtain ⟨M0,hM0⟩:∃ M0,M0=s0 * 18446744073709551616^n+X % 18446744073709551616^n:=⟨_,rfl⟩
 rw [← hM0] at AB HS
 obtain ⟨a1,c1,rfl,-,-⟩:=hx
 obtain ⟨a2,c2,rfl,-,-⟩:=hy
 clear hP hY hD ST hq0 hs0 hT ql yl sl tl hM0 hl hY0 pw
 generalize (wd 18446744073709551616 X).length=nx at *
 generalize (wd 18446744073709551616 Y).length=ny at *
 go_enter Tryz.func242,Tryz.ntmps242
 go_wp2_with fail
 refine (unhide HX1).mono ?_
 rintro e1 w1 ⟨v1,rfl,hv1,hw⟩
 obtain rfl:=hw.symm
 clear hw
 have HV1:=hide hv1
 clear hv1
 go_wp2_with fail
 refine (unhide HY1).mono ?_
 rintro e2 w2 ⟨v2,rfl,hv2,hw⟩
 obtain rfl:=hw.symm
 clear hw
 have HV2:=hide hv2
 clear hv2
 go_wp2_with fail
 refine (unhide DV _ _ _ (unhide HV1) (unhide HV2)).mono ?_
 rintro e3 w3 ⟨v3,v4,rfl,hv3,hv4,hb3⟩
 have B3:=hide hb3
 have HV3:=hide hv3
 have HV4:=hide hv4
 clear hb3 hv3 hv4 DV HX1 HY1
 go_wp2_with fail
 refine (unhide LX _ ((unhide HX).but_nil (unhide B3))).mono ?_
 rintro e4 w4 ⟨v5,rfl,hv5,hw,he5⟩
 obtain rfl:=hw.symm
 clear hw
 have HV5:=hide hv5
 have HE5:Hid (Heir w (.slice a1 nx c1) _ v5):=he5.pre (unhide B3).size
 clear hv5 he5 LX
 go_wp2_with fail
 refine (unhide AB _ _ _ (unhide HV4) (unhide HV5)).mono ?_
 rintro e5 w5 ⟨v6,rfl,hv6,hb5,hp5⟩
 have HV6:=hide hv6
 have HE6:Hid (Heir w (.slice a1 nx c1) w5 v6):=by
  rcases hp5 with ⟨-,rfl⟩ | ho
  ·exact (unhide HE5).but (unhide HV5) hb5
  ·exact (Heir.of_own ho).pre (unhide B3).size
 have HV3':=hide ((unhide HV3).but_nil hb5)
 have B5:Hid (But [] _ w5):=(unhide B3).trans' hb5
 have HY5:=hide ((unhide HY).but_nil (unhide B5))
 clear hv6 hb5 hp5 AB HV1 HV2 HV3 HV4 HV5 B3 HX HE5
 go_wp2_with fail
 refine (unhide LY _ (unhide HY5)).mono ?_
 rintro e6 w6 ⟨v7,rfl,hv7,hw⟩
 obtain rfl:=hw.symm
 clear hw
 have HV7:=hide hv7
 clear hv7 LY
 go_wp2_with fail
 refine (unhide MU _ _ _ (unhide HV3') (unhide HV7)).mono ?_
 rintro e7 w7 ⟨v8,rfl,hv8,hb7⟩
 have I0:=hide (MendInv.mk ((unhide HV3').but_nil hb7) ((unhide HV6).but_nil hb7) ((unhide HY5).but_nil hb7) hv8 (unhide HS) rfl ((unhide B5).trans' hb7) (fun _=>(unhide HE6).but (unhide HV6) hb7))
 clear HE6 hv8 hb7 MU HV3' HV6 HV7 HY5 B5 HY HS
 go_wp2_with fail
 go_loopg [8,10] (T-M0) (fun k vq vm wr=>Hid (∃ Q M,MendInv w wr X Y T (.slice a1 nx c1) (.slice a2 ny c2) v8 vq vm k Q M))
 case atStart=>exact ⟨q0,M0,unhide I0⟩
 case round =>
  clear I0
  obtain ⟨Q,M,I⟩:=unhide hrel
  clear hrel
  obtain ⟨pT,pX,pY,hl,hY0⟩:=unhide HL
  have ml:=I.len pT pY
  have qll:=I.qlen hY0 pT pX
  have tl:(wd 18446744073709551616 T).length≤nx+ny:=wd_length_le (by omega) _ _ pT
  have yl:(wd 18446744073709551616 Y).length≤nx+ny:=wd_length_le (by omega) _ _ pY
  have CM:=hide (natCmp_any _ _ M T wr I.m I.t (by omega) (by omega))
  have HI:=hide I
  rcases Nat.lt_or_ge M T with hlt | hge
  ·rw [cmpN_lt hlt] at CM
   have hq1:=I.inv.pos hlt
   have NX:=hide (I.inv.next hlt)
   have SB:=hide (fun W v1 v2 (h1:Sl .u64 W v1 (wd 18446744073709551616 Q)) (h2:Sl .u64 W v2 (wd 18446744073709551616 1))=>natSub_any v1 v2 Q 1 W h1 h2 (by omega) hq1)
   have AD:=hide (fun W v1 v2 (h1:Sl .u64 W v1 (wd 18446744073709551616 M)) (h2:Sl .u64 W v2 (wd 18446744073709551616 Y))=>natAdd_any v1 v2 M Y W h1 h2 (by omega) (by omega))
   have MS:Hid (T-(M+Y)<gk):=by
    have:=I.k
    show _<_
    omega
   clear I ml qll tl yl pT pX pY hl hq1
   go_wp2_with fail
   refine (unhide CM).mono ?_
   rintro e8 w8 ⟨rfl,q,rfl⟩
   have bq:But [] wr (wr.drewN q):=(But.refl _ _).drewN q
   have J8:=hide bq
   clear bq CM
   go_wp2_with fail
   refine (natOf_any 1 (by omega) _).mono ?_
   rintro e9 w9 ⟨v9,rfl,hv9,hb9,-⟩
   have J9:Hid (But [] wr w9):=(unhide J8).trans' hb9
   have HV9:=hide hv9
   clear hv9 hb9 J8
   go_wp2_with fail
   refine (unhide SB _ _ _ ((unhide HI).q.but_nil (unhide J9)) (unhide HV9)).mono ?_
   rintro e10 w10 ⟨v10,rfl,hv10,hb10⟩
   have J10:Hid (But [] wr w10):=(unhide J9).trans' hb10
   have HV10:=hide hv10
   clear hv10 hb10 J9 HV9 SB
   go_wp2_with fail
   refine (unhide AD _ _ _ ((unhide HI).m.but_nil (unhide J10)) ((unhide HI).y.but_nil (unhide J10))).mono ?_
   rintro e11 w11 ⟨v11,rfl,hv11,hb11⟩
   have J11:=(unhide J10).trans' hb11
   have R:Hid (MendInv w w11 X Y T (.slice a1 nx c1) (.slice a2 ny c2) v8 v10 v11 (T-(M+Y)) (Q-1) (M+Y)):=hide (MendInv.mk ((unhide HV10).but_nil hb11) hv11 ((unhide HI).y.but_nil J11) ((unhide HI).t.but_nil J11) (unhide NX) rfl ((unhide HI).but.trans' J11) (fun h0=>absurd h0 (by omega)))
   clear hv11 hb11 J11 J10 HV10 AD NX HI
   go_wp2
   go_roundg (T-(M+Y))
   case measure=>exact unhide MS
   case rel=>exact ⟨_,_,unhide R⟩
  ·have hc0:=cmpN_ge hge
   generalize cmpN M T=r at *
   have hr:decide (r<0)=false:=by simp;omega
   have hr':¬ r<0:=by omega
   obtain ⟨f1,f2⟩:=I.inv.fin hge
   have FE:=hide (And.intro f1 f2)
   have SB:=hide (fun W v1 v2 (h1:Sl .u64 W v1 (wd 18446744073709551616 M)) (h2:Sl .u64 W v2 (wd 18446744073709551616 T))=>natSub_at v1 v2 M T W h1 h2 (by omega) hge)
   clear I ml qll tl yl pT pX pY hl f1 f2
   go_wp2_with fail
   refine (unhide CM).mono ?_
   rintro e8 w8 ⟨rfl,q,rfl⟩
   have J8:Hid (But [] wr (wr.drewN q)):=(But.refl _ _).drewN q
   clear CM
   go_wp2_with fail
   refine (unhide SB _ _ _ ((unhide HI).m.but_nil (unhide J8)) ((unhide HI).t.but_nil (unhide J8))).mono ?_
   rintro e9 w9 ⟨v9,rfl,hv9,hb9,hp9⟩
   have J9:=(unhide J8).trans' hb9
   have HE:Heir w (.slice a1 nx c1) w9 v9:=by
    rcases hp9 with ⟨hT0,rfl⟩ | ho
    ·exact ((unhide HI).heir hT0).but (unhide HI).m J9
    ·exact (Heir.of_own ho).pre ((unhide HI).but.trans' (unhide J8)).size
   have FIN:=hide (And.intro ((unhide HI).q.but_nil J9) (And.intro hv9 (And.intro ((unhide HI).but.trans' J9) HE)))
   clear hv9 hb9 hp9 HE J9 J8 SB HI
   go_wp2
   go_ret2
   exact ⟨_,_,rfl,by rw [(unhide FE).1];exact (unhide FIN).1,by rw [(unhide FE).2];exact (unhide FIN).2.1,(unhide FIN).2.2⟩
end Go.Proofs.YteipfplbcbaheaaGreatDoor

namespace Go.Proofs.YteipfplbcbaheaaGreatDoor
open Go.RowKit
set_option maxHeartbeats 8000000
set_option maxRecDepth 100000
theorem divideHalves_any (vx vy:Value) (X Y n:Nat) (w:World) (hx:Sl .u64 w vx (wd 18446744073709551616 X)) (hy:Sl .u64 w vy (wd 18446744073709551616 Y)) (hY:0<Y / 18446744073709551616^n) (hD1:DivideW (X / 18446744073709551616^n / 18446744073709551616^n) (Y / 18446744073709551616^n)) (hD2:DivideW (X / 18446744073709551616^n%Y) (Y / 18446744073709551616^n)) (hl:(wd 18446744073709551616 X).length+(wd 18446744073709551616 Y).length+n<8388608) :
  Calls Tryz.prog 220 #[vx,vy,.int .i64 (n:Int)] w fun e w'=>∃ v1 v2,e=.returned (.tuple #[v1,v2])∧Sl .u64 w' v1 (wd 18446744073709551616 (X/Y))∧Sl .u64 w' v2 (wd 18446744073709551616 (X%Y))∧But [] w w'∧Heir w vx w' v2:=by
 have hP:0 < 18446744073709551616^n:=Nat.pow_pos (by omega)
 have hY0:0<Y:=by
  rcases Nat.eq_zero_or_pos Y with h | h
  ·rw [h,Nat.zero_div] at hY;omega
  ·exact h
 obtain ⟨h0,hh0⟩:∃ h0,h0=X / 18446744073709551616^n/Y:=⟨_,rfl⟩
 obtain ⟨r0,hr0⟩:∃ r0,r0=X / 18446744073709551616^n%Y:=⟨_,rfl⟩
 obtain ⟨Z,hZ⟩:∃ Z,Z=r0 * 18446744073709551616^n+X % 18446744073709551616^n:=⟨_,rfl⟩
 have e1:X / 18446744073709551616^n=h0*Y+r0:=by rw [hh0,hr0,Nat.mul_comm];exact (Nat.div_add_mod _ _).symm
 have e2:r0 * 18446744073709551616^n+X % 18446744073709551616^n=Z/Y*Y+Z%Y:=by rw [← hZ,Nat.mul_comm];exact (Nat.div_add_mod _ _).symm
 obtain ⟨f1,f2⟩:=halves X Y (18446744073709551616^n) h0 r0 (Z/Y) (Z%Y) e1 e2 (Nat.mod_lt _ hY0)
 have hZP:Z / 18446744073709551616^n=r0:=by rw [hZ,Nat.mul_comm,Nat.mul_add_div hP,Nat.div_eq_of_lt (Nat.mod_lt _ hP),Nat.add_zero]
 have rl:(wd 18446744073709551616 r0).length≤(wd 18446744073709551616 Y).length:=wd_len_mono (by rw [hr0];exact Nat.le_of_lt (Nat.mod_lt _ hY0))
 have hl1:(wd 18446744073709551616 (X / 18446744073709551616^n)).length≤(wd 18446744073709551616 X).length:=wd_len_mono (Nat.div_le_self _ _)
 have zl:(wd 18446744073709551616 Z).length≤(wd 18446744073709551616 Y).length+n:=by
  have:=wd_len_div n Z
  rw [hZP] at this
  omega
 have hhl:(wd 18446744073709551616 h0).length≤(wd 18446744073709551616 X).length:=wd_len_mono (by rw [hh0];exact Nat.le_trans (Nat.div_le_self _ _) (Nat.div_le_self _ _))
 have hll:(wd 18446744073709551616 (Z/Y)).length≤(wd 18446744073709551616 Y).length+n:=Nat.le_trans (wd_len_mono (Nat.div_le_self _ _)) zl
 rw [← hr0] at hD2
 have HI:=hide (natHigh_any vx X n w hx (by omega) (by omega))
 have DM1:Hid (∀ W v,Sl .u64 W v (wd 18446744073709551616 (X / 18446744073709551616^n))→Sl .u64 W vy (wd 18446744073709551616 Y)→Calls Tryz.prog 242 #[v,vy,.int .i64 (n:Int)] W fun e w'=>∃ v1 v2,e=.returned (.tuple #[v1,v2])∧Sl .u64 w' v1 (wd 18446744073709551616 h0)∧Sl .u64 w' v2 (wd 18446744073709551616 r0)∧But [] W w'):=fun W v h1 h2=>by
  rw [hh0,hr0]
  exact (divideMended_any v vy _ Y n W h1 h2 hY hD1 (by omega)).mono fun e w' ⟨a,b,h3,h4,h5,h6,_⟩=>⟨a,b,h3,h4,h5,h6⟩
 have LX:=hide (fun W (h:Sl .u64 W vx (wd 18446744073709551616 X))=>natLow_at vx X n W h (by omega) (by omega))
 have AB:Hid (∀ W v1 v2,Sl .u64 W v1 (wd 18446744073709551616 r0)→Sl .u64 W v2 (wd 18446744073709551616 (X % 18446744073709551616^n))→Calls Tryz.prog 241 #[v1,.int .i64 (n:Int),v2] W fun e w'=>∃ v',e=.returned v'∧Sl .u64 w' v' (wd 18446744073709551616 Z)∧But [] W w'∧(v'=v2∨Own W.heap.size w' v')):=fun W v1 v2 h1 h2=>by
  rw [hZ]
  exact (natAbove_any v1 v2 r0 _ n W h1 h2 (Nat.mod_lt _ hP) (by omega)).mono fun e w' ⟨v',he,hv,hb,hp⟩=>⟨v',he,hv,hb,hp.elim (fun h=>.inl h.2) .inr⟩
 have DM2:Hid (∀ W v,Sl .u64 W v (wd 18446744073709551616 Z)→Sl .u64 W vy (wd 18446744073709551616 Y)→Calls Tryz.prog 242 #[v,vy,.int .i64 (n:Int)] W fun e w'=>∃ v1 v2,e=.returned (.tuple #[v1,v2])∧Sl .u64 w' v1 (wd 18446744073709551616 (Z/Y))∧Sl .u64 w' v2 (wd 18446744073709551616 (Z%Y))∧But [] W w'∧Heir W v w' v2):=fun W v h1 h2=>divideMended_any v vy Z Y n W h1 h2 hY (by rw [hZP];exact hD2) (by omega)
 have AH:Hid (∀ W v1,Sl .u64 W v1 (wd 18446744073709551616 h0)→Calls Tryz.prog 241 #[v1,.int .i64 (n:Int),.slice none 0 0] W fun e w'=>∃ v',e=.returned v'∧Sl .u64 w' v' (wd 18446744073709551616 (h0 * 18446744073709551616^n))∧But [] W w'):=fun W v1 h1=>by
  refine (natAbove_any v1 (.slice none 0 0) h0 0 n W h1 (by rw [wd_zero];exact Sl.nil _ _) hP (by omega)).mono fun e w' ⟨v',he,hv,hb,_⟩=>⟨v',he,?_,hb⟩
  rw [Nat.add_zero] at hv
  exact hv
 have ahl:(wd 18446744073709551616 (h0 * 18446744073709551616^n)).length≤(wd 18446744073709551616 X).length+(n+1):=by
  have h1:=wd_len_mul h0 (18446744073709551616^n)
  have h2:(wd 18446744073709551616 (18446744073709551616^n)).length≤n+1:=wd_length_le (by omega) _ _ (Nat.pow_lt_pow_right (by omega) (by omega))
  omega
 have AD:Hid (∀ W v1 v2,Sl .u64 W v1 (wd 18446744073709551616 (h0 * 18446744073709551616^n))→Sl .u64 W v2 (wd 18446744073709551616 (Z/Y))→Calls Tryz.prog 85 #[v1,v2] W fun e w'=>∃ v',e=.returned v'∧Sl .u64 w' v' (wd 18446744073709551616 (X/Y))∧But [] W w'):=fun W v1 v2 h1 h2=>by
  rw [f1]
  exact natAdd_any v1 v2 _ _ W h1 h2 (by omega) (by omega)
 have HX:=hide hx
 have HY:=hide hy
 have FE:=hide f2
 obtain ⟨a1,c1,rfl,-,-⟩:=hx
 obtain ⟨a2,c2,rfl,-,-⟩:=hy
 clear hP hY hD1 hD2 hh0 hr0 hZ e1 e2 f1 f2 hZP rl hl1 zl hhl hll ahl hl hY0
 generalize (wd 18446744073709551616 X).length=nx at *
 generalize (wd 18446744073709551616 Y).length=ny at *
 generalize h0 * 18446744073709551616^n=H at *
 go_enter Tryz.func220,Tryz.ntmps220
 go_wp2_with fail
 refine (unhide HI).mono ?_
 rintro e1 w1 ⟨v1,rfl,hv1,hw⟩
 obtain rfl:=hw.symm
 clear hw
 have HV1:=hide hv1
 clear hv1 HI
 go_wp2_with fail
 refine (unhide DM1 _ _ (unhide HV1) (unhide HY)).mono ?_
 rintro e2 w2 ⟨v2,v3,rfl,hv2,hv3,hb2⟩
 have HV2:=hide hv2
 have HV3:=hide hv3
 have B2:=hide hb2
 clear hv2 hv3 hb2 HV1 DM1
 go_wp2_with fail
 refine (unhide LX _ ((unhide HX).but_nil (unhide B2))).mono ?_
 rintro e3 w3 ⟨v4,rfl,hv4,hw,he4⟩
 obtain rfl:=hw.symm
 clear hw
 have HV4:=hide hv4
 have HE4:Hid (Heir w (.slice a1 nx c1) _ v4):=he4.pre (unhide B2).size
 clear hv4 he4 LX
 go_wp2_with fail
 refine (unhide AB _ _ _ (unhide HV3) (unhide HV4)).mono ?_
 rintro e4 w4 ⟨v5,rfl,hv5,hb4,hp4⟩
 have HV5:=hide hv5
 have HE5:Hid (Heir w (.slice a1 nx c1) w4 v5):=by
  rcases hp4 with rfl | ho
  ·exact (unhide HE4).but (unhide HV4) hb4
  ·exact (Heir.of_own ho).pre (unhide B2).size
 have B4:=hide ((unhide B2).trans' hb4)
 have HV2':=hide ((unhide HV2).but_nil hb4)
 clear hv5 hb4 hp4 HE4 HV3 HV4 AB HV2 B2
 go_wp2_with fail
 refine (unhide DM2 _ _ (unhide HV5) ((unhide HY).but_nil (unhide B4))).mono ?_
 rintro e5 w5 ⟨v6,v7,rfl,hv6,hv7,hb5,he7⟩
 have HE7:Hid (Heir w (.slice a1 nx c1) w5 v7):=(unhide HE5).trans (unhide HV5) hb5 (unhide B4).size he7
 have HV6:=hide hv6
 have HV7:=hide hv7
 have B5:=hide ((unhide B4).trans' hb5)
 have HV25:=hide ((unhide HV2').but_nil hb5)
 clear hv6 hv7 hb5 he7 HE5 HV5 HV2' B4 DM2
 go_wp2_with fail
 first
  | refine (unhide AH _ _ (unhide HV25)).mono ?_
  | trace_state
 rintro e6 w6 ⟨v8,rfl,hv8,hb6⟩
 have HV8:=hide hv8
 have B6:=hide ((unhide B5).trans' hb6)
 have HV66:=hide ((unhide HV6).but_nil hb6)
 have HV76:=hide ((unhide HV7).but_nil hb6)
 have HE76:=hide ((unhide HE7).but (unhide HV7) hb6)
 clear hv8 hb6 HE7 HV6 HV7 HV25 B5 AH
 go_wp2_with fail
 refine (unhide AD _ _ _ (unhide HV8) (unhide HV66)).mono ?_
 rintro e7 w7 ⟨v9,rfl,hv9,hb7⟩
 have FIN:=hide (And.intro hv9 (And.intro ((unhide HV76).but_nil hb7) (And.intro ((unhide B6).trans' hb7) ((unhide HE76).but (unhide HV76) hb7))))
 clear hv9 hb7 HE76 HV8 HV66 HV76 B6 AD
 go_wp2
 go_ret2
 exact ⟨_,_,rfl,(unhide FIN).1,by rw [unhide FE];exact (unhide FIN).2.1,(unhide FIN).2.2⟩
end Go.Proofs.YteipfplbcbaheaaGreatDoor

namespace Go.Proofs.YteipfplbcbaheaaGreatDoor
open Go.RowKit
set_option maxHeartbeats 8000000
set_option maxRecDepth 100000
theorem vl_put (rs qs:List Nat) (i:Nat) (hl:i+qs.length≤rs.length) (hz:∀ j,i≤j→j<i+qs.length→rs[j]?.getD 0=0):vl 18446744073709551616 (rs.take i++qs++rs.drop (i+qs.length))=vl 18446744073709551616 rs + 18446744073709551616^i*vl 18446744073709551616 qs:=by
 have hti:(rs.take i).length=i:=by rw [List.length_take];omega
 have hmid:((rs.drop i).take qs.length).length=qs.length:=by rw [List.length_take,List.length_drop];omega
 have hz0:vl 18446744073709551616 ((rs.drop i).take qs.length)=0:=vl_zeros 18446744073709551616 _ (fun j hj=>by
  rw [hmid] at hj
  rw [List.getElem?_take_of_lt hj,List.getElem?_drop]
  exact hz (i+j) (by omega) (by omega))
 have e:rs=rs.take i++(rs.drop i).take qs.length++rs.drop (i+qs.length):=by
  rw [List.append_assoc,← List.drop_drop,List.take_append_drop,List.take_append_drop]
 have h2:=congrArg (vl 18446744073709551616) e
 rw [vl_append,vl_append,List.length_append,hti,hmid,hz0] at h2
 rw [vl_append,vl_append,List.length_append,hti]
 omega
structure PartsInv (X Y nx top:Nat) (rs:List Nat):Prop where
 len:rs.length=nx
 mem:∀ x ∈ rs,x < 18446744073709551616
 zero:∀ j,j<top→rs[j]?.getD 0=0
 val:vl 18446744073709551616 rs=18446744073709551616^top*(X / 18446744073709551616^top/Y)
theorem PartsInv.start (X Y nx top:Nat) (h:nx≤top) (hX:X < 18446744073709551616^nx):PartsInv X Y nx top (List.replicate nx 0):=by
 refine ⟨by simp,fun x hx=>by rw [List.mem_replicate] at hx;omega,fun j _=>by rw [List.getElem?_replicate];split <;> rfl,?_⟩
 have h1:X / 18446744073709551616^top=0:=Nat.div_eq_of_lt (Nat.lt_of_lt_of_le hX (Nat.pow_le_pow_right (by omega) h))
 rw [vl_replicate,h1,Nat.zero_div,Nat.mul_zero]
theorem part_more (X Y i n:Nat) (hY0:0<Y) (hY:Y < 18446744073709551616^n) (D:Nat) (hD:D=X / 18446744073709551616^(i+n)%Y * 18446744073709551616^n+X / 18446744073709551616^i % 18446744073709551616^n) :
  X / 18446744073709551616^i/Y=X / 18446744073709551616^(i+n)/Y * 18446744073709551616^n+D/Y∧X / 18446744073709551616^i%Y=D%Y∧D/Y < 18446744073709551616^n∧D/Y≤X / 18446744073709551616^i∧D < 18446744073709551616^(n+n):=by
 have hP:0 < 18446744073709551616^n:=Nat.pow_pos (by omega)
 have e1:X / 18446744073709551616^(i+n)=X / 18446744073709551616^i / 18446744073709551616^n:=by rw [Nat.pow_add,Nat.div_div_eq_div_mul]
 rw [e1] at hD ⊢
 generalize X / 18446744073709551616^i=A at *
 have hr:=Nat.mod_lt (A / 18446744073709551616^n) hY0
 have hp:=Nat.mod_lt A hP
 obtain ⟨f1,f2⟩:=halves A Y (18446744073709551616^n) (A / 18446744073709551616^n/Y) (A / 18446744073709551616^n%Y) (D/Y) (D%Y) (by rw [Nat.mul_comm];exact (Nat.div_add_mod _ _).symm) (by rw [← hD,Nat.mul_comm (D/Y)];exact (Nat.div_add_mod _ _).symm) (Nat.mod_lt _ hY0)
 have hDl:D<Y * 18446744073709551616^n:=by
  have h1:(A / 18446744073709551616^n%Y+1) * 18446744073709551616^n≤Y * 18446744073709551616^n:=Nat.mul_le_mul_right _ hr
  rw [Nat.succ_mul] at h1
  omega
 refine ⟨f1,f2,Nat.div_lt_of_lt_mul hDl,?_,?_⟩
 ·have:A/Y≤A:=Nat.div_le_self _ _
  omega
 ·rw [Nat.pow_add]
  exact Nat.lt_of_lt_of_le hDl (Nat.mul_le_mul_right _ (Nat.le_of_lt hY))
theorem PartsInv.step {X Y nx i n:Nat} {rs:List Nat} (h:PartsInv X Y nx (i+n) rs) (hY0:0<Y) (hY:Y < 18446744073709551616^n) (D:Nat) (hD:D=X / 18446744073709551616^(i+n)%Y * 18446744073709551616^n+X / 18446744073709551616^i % 18446744073709551616^n) (hl:i+(wd 18446744073709551616 (D/Y)).length≤nx) :
  PartsInv X Y nx i (rs.take i++wd 18446744073709551616 (D/Y)++rs.drop (i+(wd 18446744073709551616 (D/Y)).length)):=by
 obtain ⟨f1,-,f3,-,-⟩:=part_more X Y i n hY0 hY D hD
 have hq:(wd 18446744073709551616 (D/Y)).length≤n:=wd_length_le (by omega) _ _ f3
 have hlen:=h.len
 have hti:(rs.take i).length=i:=by rw [List.length_take];omega
 refine ⟨?_,?_,?_,?_⟩
 ·rw [List.length_append,List.length_append,hti,List.length_drop];omega
 ·intro x hx
  rw [List.mem_append,List.mem_append] at hx
  rcases hx with (hx | hx) | hx
  ·exact h.mem x (List.mem_of_mem_take hx)
  ·exact wd_mem (by omega) _ x hx
  ·exact h.mem x (List.mem_of_mem_drop hx)
 ·intro j hj
  rw [List.append_assoc,List.getElem?_append_left (by rw [hti];exact hj),List.getElem?_take_of_lt hj]
  exact h.zero j (by omega)
 ·rw [vl_put rs _ i (by omega) (fun j _ hj=>h.zero j (by omega)),h.val,vl_wd (by omega),f1,Nat.pow_add,Nat.mul_add]
  congr 1
  rw [Nat.mul_assoc,Nat.mul_comm (18446744073709551616^n)]
theorem Heir.over {w w1 w2:World} {vx v1:Value} {xs:List Nat} {g:Nat} (h:Heir w vx w1 v1) (hs:Sl .u64 w1 v1 xs) (hb:But [g] w1 w2) (ho:Off g v1):Heir w vx w2 v1:=fun b off n c e=>by
 rcases h b off n c e with ⟨h1,h2⟩ | h1
 ·refine .inl ⟨h1,fun i hi=>?_⟩
  have hn:=hs.len_eq e
  have hl:=hs.lt (by omega) b off n c e
  rw [hb.frozen (p:=⟨b,off+i,none⟩) hl (by have:=ho b off n c e;simpa using this)]
  exact h2 i hi
 ·exact .inr h1
theorem Heir.off {w w1:World} {vx v1:Value} {g:Nat} (h:Heir w vx w1 v1) (hg:g<w.heap.size) (hx:Off g vx):Off g v1:=fun b off n c e=>by
 rcases h b off n c e with ⟨h1,-⟩ | ⟨o0,n0,c0,e0,-,-⟩
 ·omega
 ·exact hx _ _ _ _ e0
theorem seg_put {w:World} {g nx i:Nat} {rs qs:List Nat} {vq:Value} (hs:Seg w g 0 rs) (hl:rs.length=nx) (hq:Sl .u64 w vq qs) (hi:i+qs.length≤nx):∃ w',(∀ ty,(Builtin.copy_ #[94,95] ty #[.slice (some ⟨g,i,none⟩) (nx-i) (nx-i),vq]).run Tryz.prog w=.ok (goInt qs.length) w')∧Hid (Seg w' g 0 (rs.take i++qs++rs.drop (i+qs.length))∧But [g] w w'):=by
 have S2:=hs.sub i (nx-i) (by omega)
 have hsl:((rs.drop i).take (nx-i)).length=nx-i:=by rw [List.length_take,List.length_drop,hl];omega
 obtain ⟨w3,hcp,HC⟩:=run_copy_seg (P:=Tryz.prog) w 94 95 24 Tryz.underlying94 size_u64 g (0+i) (nx-i) (nx-i) vq ((rs.drop i).take (nx-i)) qs S2 hsl.symm hq (by rw [hsl];omega)
 have S7:=(unhide HC).1.sub 0 qs.length (by rw [List.length_append];omega)
 rw [List.drop_zero,List.take_left,Nat.add_zero] at S7
 have SW:=hs.whole (unhide HC).2 S7 rfl (by omega)
 rw [Nat.zero_add] at SW hcp
 exact ⟨w3,hcp,SW,(unhide HC).2.but⟩
def PartsAt (W:World) (vx:Value) (X Y nx n g k:Nat) (vr vi:Value) (wr:World):Prop :=
 ∃ (z:Int) (rs:List Nat),vi=.int .i64 z∧z=(k:Int)-(n:Int)∧PartsInv X Y nx k rs∧Seg wr g 0 rs∧Sl .u64 wr vr (wd 18446744073709551616 (X / 18446744073709551616^k%Y))∧Heir W vx wr vr∧But [g] W wr∧k<nx+n∧n ∣ k
theorem divideParts_any (vx vy:Value) (X Y:Nat) (w:World) (hx:Sl .u64 w vx (wd 18446744073709551616 X)) (hy:Sl .u64 w vy (wd 18446744073709551616 Y)) (hY:0<Y) (hX:0<X) (hD:∀ D,(wd 18446744073709551616 D).length≤(wd 18446744073709551616 Y).length+(wd 18446744073709551616 Y).length→DivideW D Y) (hl:(wd 18446744073709551616 X).length+(wd 18446744073709551616 Y).length<4194304) :
  Calls Tryz.prog 219 #[vx,vy] w fun e w'=>∃ v1 v2,e=.returned (.tuple #[v1,v2])∧Sl .u64 w' v1 (wd 18446744073709551616 (X/Y))∧Sl .u64 w' v2 (wd 18446744073709551616 (X%Y))∧But [] w w'∧Heir w vx w' v2:=by
 have hnp:0<(wd 18446744073709551616 Y).length:=by rw [Nat.pos_iff_ne_zero];intro e;rw [wd_len_zero (by omega)] at e;omega
 have hxp:0<(wd 18446744073709551616 X).length:=by rw [Nat.pos_iff_ne_zero];intro e;rw [wd_len_zero (by omega)] at e;omega
 obtain ⟨nx,hnx⟩:∃ nx,nx=(wd 18446744073709551616 X).length:=⟨_,rfl⟩
 obtain ⟨n,hn⟩:∃ n,n=(wd 18446744073709551616 Y).length:=⟨_,rfl⟩
 have hYP:Y < 18446744073709551616^n:=by rw [hn];exact lt_wd Y
 have hXP:X < 18446744073709551616^nx:=by rw [hnx];exact lt_wd X
 have offx:Off w.heap.size vx:=off_fresh hx hxp _ (Nat.le_refl _)
 have offy:Off w.heap.size vy:=off_fresh hy hnp _ (Nat.le_refl _)
 rw [← hnx,← hn] at hl
 rw [← hnx] at hxp
 rw [← hn] at hnp hD
 have bM:=but_made w nx 24
 have SM:=Seg.made w nx 24
 obtain ⟨d,hd⟩:∃ d,d=(nx-1)/n:=⟨_,rfl⟩
 obtain ⟨z0,hz0⟩:∃ z0,z0=d*n:=⟨_,rfl⟩
 have hz1:z0≤nx-1:=by rw [hz0,hd];exact Nat.div_mul_le_self _ _
 have hz2:nx≤z0+n:=by
  have h1:=Nat.div_add_mod (nx-1) n
  have h2:=Nat.mod_lt (nx-1) hnp
  rw [← hd,Nat.mul_comm,← hz0] at h1
  omega
 have hdl:d≤nx:=by rw [hd];exact Nat.le_trans (Nat.div_le_self _ _) (Nat.sub_le _ _)
 have hmk:=fun wx=>run_make64 wx nx (by omega)
 obtain ⟨W,hW⟩:∃ W,W=w.alloc (.cells (madeCells #[.int .u64 0] nx) 24):=⟨_,rfl⟩
 have hgW:w.heap.size<W.heap.size:=by rw [hW];simp
 rw [← hW] at bM SM
 have A0:Hid (PartsAt W vx X Y nx n w.heap.size (z0+n) (.slice none 0 0) (.int .i64 (z0:Int)) W):=by
  refine ⟨(z0:Int),_,rfl,by omega,PartsInv.start X Y nx (z0+n) hz2 hXP,SM,?_,Heir.nil _ _ _ _ _,But.refl _ _,by omega,?_⟩
  ·rw [Nat.div_eq_of_lt (Nat.lt_of_lt_of_le hXP (Nat.pow_le_pow_right (by omega) hz2)),Nat.zero_mod,wd_zero]
   exact Sl.nil _ _
  ·rw [hz0];exact ⟨d+1,by rw [Nat.mul_comm,Nat.mul_succ]⟩
 have SX:=hide (hx.but_nil bM)
 have SY:=hide (hy.but_nil bM)
 have OX:=hide offx
 have OY:=hide offy
 have BM:=hide bM
 have GW:=hide hgW
 have HD:=hide hD
 have HYP:=hide (And.intro hY hYP)
 have e1:((nx:Int)-1)/(n:Int)=(d:Int):=by rw [hd,Int.natCast_ediv,Int.natCast_sub hxp];rfl
 have e2:(d:Int)*(n:Int)=(z0:Int):=by rw [hz0,Int.natCast_mul]
 have e3:wrap64 (d:Int)=(d:Int):=by unfold wrap64;omega
 have e4:wrap64 (z0:Int)=(z0:Int):=by unfold wrap64;omega
 have n0:((n:Int)==0)=false:=beq_eq_false_iff_ne.2 (by omega)
 have HW:=hide hW
 obtain ⟨a1,c1,rfl,-,-⟩:=hx
 obtain ⟨a2,c2,rfl,-,-⟩:=hy
 rw [← hnx] at A0 SX OX
 rw [← hn] at SY OY
 rw [← hnx,← hn]
 have NX:=hide hnx.symm
 clear hnx hn hD hX offx offy bM SM hd hz0 hW hYP hXP hY hgW
 go_enter Tryz.func219,Tryz.ntmps219
 go_wp2_with fail
 rw [← unhide HW]
 go_loopg [9,10] (z0+n) (fun k vr vi wr=>Hid (PartsAt W (.slice a1 nx c1) X Y nx n w.heap.size k vr vi wr))
 case atStart=>exact A0
 case round =>
  clear A0 e1 e2 e3 e4
  obtain ⟨z,rs,rfl,hz,hI,hS,hR,hH,hB,hk,hdv⟩:=unhide hrel
  clear hrel
  obtain ⟨hY,hYP⟩:=unhide HYP
  have hlen:=hI.len
  by_cases hz0:z<0
  ·have hgk:gk=0:=Nat.eq_zero_of_dvd_of_lt hdv (by omega)
   subst hgk
   have hv:vl 18446744073709551616 rs=X/Y:=by rw [hI.val,Nat.pow_zero,Nat.one_mul,Nat.div_one]
   rw [Nat.pow_zero,Nat.div_one] at hR
   have TR:=hide (trimmed_any (.slice (some ⟨w.heap.size,0,none⟩) nx nx) rs wr (by have:=hS.sl nx (by omega);rw [hlen] at this;exact this) hI.mem (by omega))
   rw [hv] at TR
   have FIN:=hide (And.intro hR (And.intro ((unhide BM).trans hB (fun x hx=>by simp at hx;subst hx;exact .inr (Nat.le_refl _))) (hH.pre (unhide BM).size)))
   clear hI hS hR hH hB hdv hlen hv hY hYP hz
   go_wp2_with fail
   refine (unhide TR).mono ?_
   rintro e1 w1 ⟨v1,rfl,hv1,hw,-⟩
   obtain rfl:=hw.symm
   clear hw
   have HV1:=hide hv1
   clear hv1 TR
   go_wp2
   go_ret2
   exact ⟨_,_,rfl,unhide HV1,(unhide FIN).1,(unhide FIN).2.1,(unhide FIN).2.2⟩
  ·obtain ⟨i,rfl⟩:∃ i:Nat,z=(i:Int):=⟨z.toNat,by omega⟩
   have hki:gk=i+n:=by omega
   subst hki
   obtain ⟨D,hDD⟩:∃ D,D=X / 18446744073709551616^(i+n)%Y * 18446744073709551616^n+X / 18446744073709551616^i % 18446744073709551616^n:=⟨_,rfl⟩
   obtain ⟨f1,f2,f3,f4,f5⟩:=part_more X Y i n hY hYP D hDD
   have hq1:(wd 18446744073709551616 (D/Y)).length≤nx-i:=by
    have h1:=wd_len_mono f4
    have h2:=wd_len_div i X
    rw [unhide NX] at h2
    omega
   have hrl:(wd 18446744073709551616 (X / 18446744073709551616^(i+n)%Y)).length≤n:=wd_length_le (by omega) _ _ (Nat.lt_trans (Nat.mod_lt _ hY) hYP)
   have hdl:(wd 18446744073709551616 D).length≤n+n:=wd_length_le (by omega) _ _ f5
   have hxl:=wd_len_div i X
   rw [unhide NX] at hxl
   have sx:=(unhide SX).but hB (fun b off cap m e=>by have:=unhide OX b off m cap e;simpa using this)
   have sy:=(unhide SY).but hB (fun b off cap m e=>by have:=unhide OY b off m cap e;simpa using this)
   have HI:=hide (natHigh_at _ X i wr sx (by omega))
   have LO:=hide (fun v1 (h:Sl .u64 wr v1 (wd 18446744073709551616 (X / 18446744073709551616^i)))=>natLow_at v1 _ n wr h (by omega) (by omega))
   have AB:Hid (∀ v2,Sl .u64 wr v2 (wd 18446744073709551616 (X / 18446744073709551616^i % 18446744073709551616^n))→Calls Tryz.prog 241 #[u9,.int .i64 (n:Int),v2] wr fun e w'=>∃ v',e=.returned v'∧Sl .u64 w' v' (wd 18446744073709551616 D)∧But [] wr w'∧(v'=v2∨Own wr.heap.size w' v')):=fun v2 h=>by
    rw [hDD]
    exact (natAbove_any u9 v2 _ _ n wr hR h (Nat.mod_lt _ (Nat.pow_pos (by omega))) (by omega)).mono fun e w' ⟨v',he,hv,hb,hp⟩=>⟨v',he,hv,hb,hp.elim (fun h=>.inl h.2) .inr⟩
   have DV:=hide (unhide HD D hdl)
   unfold DivideW at DV
   rw [← f2] at DV
   have STEP:=hide (hI.step hY hYP D hDD (by omega))
   have KEEP:=hide (And.intro hS (And.intro hB (And.intro hlen (And.intro sx sy))))
   have HQ:=hide hq1
   have HDV:=hide hdv
   have i1:(0:Int)≤(i:Int):=by omega
   have i2:(i:Int)<(nx:Int):=by omega
   have i3:i<nx:=by omega
   obtain ⟨ar,cr,rfl,-,-⟩:=hR
   generalize (wd 18446744073709551616 (X / 18446744073709551616^(i+n)%Y)).length=lr at *
   clear hI hS hH hB hdv hlen hY hYP hz hDD f1 f2 f3 f4 f5 hq1 hrl hdl hxl sx sy hz0
   go_wp2_with fail
   refine (unhide HI).mono ?_
   rintro e1 w1 ⟨v1,rfl,hv1,hw,he1⟩
   obtain rfl:=hw.symm
   clear hw
   have HV1:=hide hv1
   have HE1:=hide he1
   clear hv1 he1 HI
   go_wp2_with fail
   refine (unhide LO _ (unhide HV1)).mono ?_
   rintro e2 w2 ⟨v2,rfl,hv2,hw,he2⟩
   obtain rfl:=hw.symm
   clear hw
   have HV2:=hide hv2
   have HE2:=hide ((unhide HE1).trans (unhide HV1) (But.refl _ _) (Nat.le_refl _) he2)
   clear hv2 he2 LO HE1 HV1
   go_wp2_with fail
   refine (unhide AB _ (unhide HV2)).mono ?_
   rintro e3 w3 ⟨v3,rfl,hv3,hb3,hp3⟩
   have HV3:=hide hv3
   have B3:=hide hb3
   have HE3:Hid (Heir wr (.slice a1 nx c1) w3 v3):=by
    rcases hp3 with rfl | ho
    ·exact (unhide HE2).but (unhide HV2) hb3
    ·exact Heir.of_own ho
   clear hv3 hb3 hp3 AB HE2 HV2
   go_wp2_with fail
   refine (unhide DV _ _ _ (unhide HV3) ((unhide KEEP).2.2.2.2.but_nil (unhide B3))).mono ?_
   rintro e4 w4 ⟨v4,v5,rfl,hv4,hv5,hb4,he4⟩
   have b4:=(unhide B3).trans' hb4
   have he5:=((unhide HE3).trans (unhide HV3) hb4 (unhide B3).size he4).pre (unhide KEEP).2.1.size
   have off5:=he5.off (unhide GW) (unhide OX)
   obtain ⟨w5,hcp,HC⟩:=seg_put (i:=i) (nx:=nx) ((unhide KEEP).1.but_nil b4) (unhide KEEP).2.2.1 hv4 (by have:=unhide HQ;omega)
   have s5:=hv5.but (unhide HC).2 (fun b off cap m e=>by have:=off5 b off m cap e;simpa using this)
   have R:Hid (PartsAt W (.slice a1 nx c1) X Y nx n w.heap.size i v5 (.int .i64 ((i:Int)-(n:Int))) w5) :=
    ⟨_,_,rfl,rfl,unhide STEP,(unhide HC).1,s5,he5.over hv5 (unhide HC).2 off5,((unhide KEEP).2.1.trans (But.of_nil b4) (fun x hx=>.inl hx)).trans (unhide HC).2 (fun x hx=>.inl hx),by omega,(Nat.dvd_add_iff_left (Nat.dvd_refl n)).2 (unhide HDV)⟩
   obtain ⟨a4,c4,rfl,-,-⟩:=hv4
   clear hv5 hb4 he4 b4 he5 off5 HC s5 HE3 HV3 B3 DV KEEP STEP HDV
   generalize (wd 18446744073709551616 (D/Y)).length=lq at *
   go_wp2
   go_roundg i
   case measure=>omega
   case rel=>exact unhide R
end Go.Proofs.YteipfplbcbaheaaGreatDoor

namespace Go.Proofs.YteipfplbcbaheaaGreatDoor
open Go.RowKit
set_option maxHeartbeats 2000000
set_option maxRecDepth 100000
theorem divide_less (X Y:Nat) (hlt:X<Y) (hl:(wd 18446744073709551616 Y).length<268435456):DivideW X Y:=by
 intro vx vy w hx hy
 have hlen:=wd_len_mono (Nat.le_of_lt hlt)
 have hcmp:=natCmp_any vx vy X Y w hx hy (by omega) (by omega)
 rw [cmpN_lt hlt] at hcmp
 rw [Nat.div_eq_of_lt hlt,Nat.mod_eq_of_lt hlt,wd_zero]
 have HC:=hide hcmp
 have HX:=hide hx
 obtain ⟨a1,c1,rfl,-,-⟩:=hx
 obtain ⟨a2,c2,rfl,-,-⟩:=hy
 clear hcmp
 generalize (wd 18446744073709551616 X).length=nx at *
 generalize (wd 18446744073709551616 Y).length=ny at *
 go_enter Tryz.func188,Tryz.ntmps188
 go_wp2_with fail
 refine (unhide HC).mono ?_
 rintro e w1 ⟨rfl,q,rfl⟩
 go_wp2
 go_ret2
 exact ⟨_,_,rfl,Sl.nil _ _,unhide HX,(But.refl _ _).drewN q,Heir.self _ _ _⟩
theorem divide_parts (X Y:Nat) (hle:Y≤X) (h80:80≤(wd 18446744073709551616 Y).length) (hp:(wd 18446744073709551616 Y).length+(wd 18446744073709551616 Y).length<(wd 18446744073709551616 X).length) (hl:(wd 18446744073709551616 X).length+(wd 18446744073709551616 Y).length<4194304) (hD:∀ D,(wd 18446744073709551616 D).length≤(wd 18446744073709551616 Y).length+(wd 18446744073709551616 Y).length→DivideW D Y):DivideW X Y:=by
 intro vx vy w hx hy
 have hY:0<Y:=by
  rcases Nat.eq_zero_or_pos Y with h | h
  ·subst h;rw [wd_zero] at h80;simp at h80
  ·exact h
 have hcmp:=natCmp_any vx vy X Y w hx hy (by omega) (by omega)
 have hc0:=cmpN_ge hle
 generalize cmpN X Y=r at *
 have HC:=hide hcmp
 have LD:=hide (fun (W:World) (h1:Sl .u64 W vx (wd 18446744073709551616 X)) (h3:Sl .u64 W vy (wd 18446744073709551616 Y))=>divideParts_any vx vy X Y W h1 h3 hY (by omega) hD hl)
 have HX:=hide hx
 have HY:=hide hy
 obtain ⟨a1,c1,rfl,-,-⟩:=hx
 obtain ⟨a2,c2,rfl,-,-⟩:=hy
 clear hcmp hD
 generalize (wd 18446744073709551616 X).length=nx at *
 generalize (wd 18446744073709551616 Y).length=ny at *
 have hr:decide (r<0)=false:=by simp;omega
 go_enter Tryz.func188,Tryz.ntmps188
 go_wp2_with fail
 refine (unhide HC).mono ?_
 rintro e w1 ⟨rfl,q,rfl⟩
 go_wp2_with fail
 refine (unhide LD _ (by exact unhide HX) (by exact unhide HY)).mono ?_
 rintro e w2 ⟨v1,v2,rfl,h1,h3,h4,h5⟩
 have ALL:=hide (And.intro h1 (And.intro h3 (And.intro (((But.refl [] _).drewN q).trans' h4) (h5.pre (w:=w) (Nat.le_refl _)))))
 clear h1 h3 h4 h5 LD HC
 go_wp2
 go_ret2
 exact ⟨v1,v2,rfl,(unhide ALL).1,(unhide ALL).2.1,(unhide ALL).2.2.1,(unhide ALL).2.2.2⟩
theorem divide_halves (X Y n:Nat) (hle:Y≤X) (h80:80≤(wd 18446744073709551616 Y).length) (hm:(wd 18446744073709551616 Y).length+80≤(wd 18446744073709551616 X).length) (hp:(wd 18446744073709551616 X).length≤(wd 18446744073709551616 Y).length+(wd 18446744073709551616 Y).length) (hn:n=((wd 18446744073709551616 X).length-(wd 18446744073709551616 Y).length)/2) (hl:(wd 18446744073709551616 X).length+(wd 18446744073709551616 Y).length+n<8388608) (hD1:DivideW (X / 18446744073709551616^n / 18446744073709551616^n) (Y / 18446744073709551616^n)) (hD2:DivideW (X / 18446744073709551616^n%Y) (Y / 18446744073709551616^n)):DivideW X Y:=by
 intro vx vy w hx hy
 have hYn:0<Y / 18446744073709551616^n:=by
  have:=wd_len_div n Y
  rcases Nat.eq_zero_or_pos (Y / 18446744073709551616^n) with h | h
  ·rw [h,wd_zero,List.length_nil] at this;omega
  ·exact h
 have hcmp:=natCmp_any vx vy X Y w hx hy (by omega) (by omega)
 have hc0:=cmpN_ge hle
 generalize cmpN X Y=r at *
 have HC:=hide hcmp
 have LD:=hide (fun (W:World) (h1:Sl .u64 W vx (wd 18446744073709551616 X)) (h3:Sl .u64 W vy (wd 18446744073709551616 Y))=>divideHalves_any vx vy X Y n W h1 h3 hYn hD1 hD2 hl)
 have HX:=hide hx
 have HY:=hide hy
 obtain ⟨a1,c1,rfl,-,-⟩:=hx
 obtain ⟨a2,c2,rfl,-,-⟩:=hy
 clear hcmp hD1 hD2 hYn
 generalize (wd 18446744073709551616 X).length=nx at *
 generalize (wd 18446744073709551616 Y).length=ny at *
 have hr:decide (r<0)=false:=by simp;omega
 have e1:((nx:Int)-(ny:Int))/2=(n:Int):=by omega
 clear hn
 go_enter Tryz.func188,Tryz.ntmps188
 go_wp2_with fail
 refine (unhide HC).mono ?_
 rintro e w1 ⟨rfl,q,rfl⟩
 go_wp2_with fail
 refine (unhide LD _ (by exact unhide HX) (by exact unhide HY)).mono ?_
 rintro e w2 ⟨v1,v2,rfl,h1,h3,h4,h5⟩
 have ALL:=hide (And.intro h1 (And.intro h3 (And.intro (((But.refl [] _).drewN q).trans' h4) (h5.pre (w:=w) (Nat.le_refl _)))))
 clear h1 h3 h4 h5 LD HC
 go_wp2
 go_ret2
 exact ⟨v1,v2,rfl,(unhide ALL).1,(unhide ALL).2.1,(unhide ALL).2.2.1,(unhide ALL).2.2.2⟩
theorem divideW_all (m:Nat):∀ X Y,(wd 18446744073709551616 X).length≤m→2≤(wd 18446744073709551616 Y).length→m+(wd 18446744073709551616 Y).length<2097152→DivideW X Y:=by
 induction m with
 | zero =>
  intro X Y hX h2 hl
  have h0:X=0:=(wd_len_zero (B:=18446744073709551616) (by omega) X).1 (by omega)
  have hY:0<Y:=by
   rcases Nat.eq_zero_or_pos Y with h | h
   ·subst h;rw [wd_zero] at h2;simp at h2
   ·exact h
  exact divide_less X Y (by omega) (by omega)
 | succ m ih =>
  intro X Y hX h2 hl
  rcases Nat.lt_or_ge X Y with hlt | hge
  ·exact divide_less X Y hlt (by omega)
  ·by_cases hs:(wd 18446744073709551616 X).length<(wd 18446744073709551616 Y).length+80∨(wd 18446744073709551616 Y).length<80
   ·intro vx vy w hx hy
    exact (divide_short X Y h2 hge (by omega) hs vx vy w hx hy).mono fun e w' ⟨v1,v2,h1,h3,h4,h5,h6⟩=>⟨v1,v2,h1,h3,h4,h5,Heir.of_own (h6 hge)⟩
   ·by_cases hp:(wd 18446744073709551616 Y).length+(wd 18446744073709551616 Y).length<(wd 18446744073709551616 X).length
    ·exact divide_parts X Y hge (by omega) hp (by omega) (fun D hD=>ih D Y (by omega) h2 (by omega))
    ·obtain ⟨n,hn⟩:∃ n,n=((wd 18446744073709551616 X).length-(wd 18446744073709551616 Y).length)/2:=⟨_,rfl⟩
     have l1:=wd_len_div n X
     have l2:=wd_len_div n (X / 18446744073709551616^n)
     have l3:=wd_len_div n Y
     have l4:(wd 18446744073709551616 (X / 18446744073709551616^n%Y)).length≤(wd 18446744073709551616 Y).length:=wd_len_mono (Nat.le_of_lt (Nat.mod_lt _ (by
      rcases Nat.eq_zero_or_pos Y with h | h
      ·subst h;rw [wd_zero] at h2;simp at h2
      ·exact h)))
     exact divide_halves X Y n hge (by omega) (by omega) (by omega) hn (by omega) (ih _ _ (by omega) (by omega) (by omega)) (ih _ _ (by omega) (by omega) (by omega))
end Go.Proofs.YteipfplbcbaheaaGreatDoor

namespace Go.Proofs.YteipfplbcbaheaaGreatDoor
open Go.RowKit
structure Lead (X x N:Nat):Prop where
 lo:9223372036854775808≤x
 hi:x < 18446744073709551616
 ge:x*2^N≤X*9223372036854775808
 lt:X*9223372036854775808<(x+1)*2^N
theorem pow63 (k:Nat) (h:k≤63):2^k*2^(63-k)=9223372036854775808:=by
 rw [← Nat.pow_add,show k+(63-k)=63 from by omega]
theorem lead_one (t k:Nat) (hk:k≤63) (h1:9223372036854775808≤t*2^k) (h2:t*2^k < 18446744073709551616):Lead t (t*2^k) (63-k):=by
 have hp:0<2^(63-k):=Nat.pow_pos (by omega)
 refine ⟨h1,h2,?_,?_⟩
 ·rw [Nat.mul_assoc,pow63 k hk];omega
 ·rw [Nat.add_mul,Nat.mul_assoc,pow63 k hk];omega
theorem lead_more (X R P m s t k:Nat) (hP:P=18446744073709551616^m) (hX:X=R+P*(s + 18446744073709551616*t)) (hR:R<P) (hs:s < 18446744073709551616) (hk:k≤63) (h1:9223372036854775808≤t*2^k) (h2:t*2^k < 18446744073709551616) :
  Lead X (t*2^k+s/2^(64-k)) (64*(m+1)+63-k)∧s/2^(64-k)<2^k:=by
 have hB:18446744073709551616=2^(64-k)*2^k:=by rw [← Nat.pow_add,show 64-k+k=64 from by omega]
 have hK:0<2^k:=Nat.pow_pos (by omega)
 have hQ:0<2^(64-k):=Nat.pow_pos (by omega)
 have hu:s/2^(64-k)<2^k:=by rw [Nat.div_lt_iff_lt_mul hQ,Nat.mul_comm,← hB];exact hs
 have hd:=Nat.div_add_mod s (2^(64-k))
 have hr:=Nat.mod_lt s hQ
 have e63:=pow63 k hk
 have hN:2^(64*(m+1)+63-k)=P * 18446744073709551616*2^(63-k):=by
  rw [hP,show 64*(m+1)+63-k=64*m+64+(63-k) from by omega,Nat.pow_add,Nat.pow_add,Nat.pow_mul]
 have hz:0<2^(63-k):=Nat.pow_pos (by omega)
 generalize hu1:s/2^(64-k)=u at *
 generalize s%2^(64-k)=r at *
 generalize 64*(m+1)+63-k=N at *
 generalize 2^(63-k)=z at *
 generalize 2^(64-k)=Q at *
 generalize 2^k=K at *
 have htQ:t<Q:=by rw [hB] at h2;exact Nat.lt_of_mul_lt_mul_right h2
 have hx:t*K+u < 18446744073709551616:=by
  have:(t+1)*K≤Q*K:=Nat.mul_le_mul_right _ htQ
  rw [← hB,Nat.add_mul] at this;omega
 have eX:X*K=R*K+P*((t*K+u) * 18446744073709551616+r*K):=by rw [hX,← hd,hB];grind
 have hrK:r*K+K≤18446744073709551616:=by
  have:(r+1)*K≤Q*K:=Nat.mul_le_mul_right _ hr
  rw [← hB,Nat.add_mul] at this;omega
 have hRK:R*K<P*K:=Nat.mul_lt_mul_of_pos_right hR hK
 have g1:(t*K+u)*(P * 18446744073709551616)≤X*K:=by
  rw [eX]
  have:P*((t*K+u) * 18446744073709551616)≤P*((t*K+u) * 18446744073709551616+r*K):=Nat.mul_le_mul_left _ (by omega)
  have e:(t*K+u)*(P * 18446744073709551616)=P*((t*K+u) * 18446744073709551616):=by grind
  omega
 have g2:X*K<(t*K+u+1)*(P * 18446744073709551616):=by
  rw [eX]
  have h3:P*((t*K+u) * 18446744073709551616+r*K+K)≤P*((t*K+u) * 18446744073709551616 + 18446744073709551616):=Nat.mul_le_mul_left _ (by omega)
  have e:(t*K+u+1)*(P * 18446744073709551616)=P*((t*K+u) * 18446744073709551616 + 18446744073709551616):=by grind
  have e2:P*((t*K+u) * 18446744073709551616+r*K+K)=P*((t*K+u) * 18446744073709551616+r*K)+P*K:=by grind
  omega
 refine ⟨⟨by omega,hx,?_,?_⟩,hu⟩
 ·rw [hN,← e63,← Nat.mul_assoc X,← Nat.mul_assoc (t*K+u)];exact Nat.mul_le_mul_right _ g1
 ·rw [hN,← e63,← Nat.mul_assoc X,← Nat.mul_assoc (t*K+u+1)];exact Nat.mul_lt_mul_of_pos_right g2 hz
structure LeadP (Z p K:Nat):Prop where
 lo:9223372036854775808≤p
 hi:p < 18446744073709551616
 ge:p*2^K≤Z*85070591730234615865843651857942052864
 lt:Z*85070591730234615865843651857942052864<(p+8)*2^K
theorem lead_mul' (A C x y n m z:Nat) (h1:x*n≤A*z) (h2:A*z<(x+1)*n) (g1:y*m≤C*z) (g2:C*z<(y+1)*m):x*y*(n*m)≤A*C*(z*z)∧A*C*(z*z)<(x+1)*(y+1)*(n*m):=by
 have h1:=Nat.mul_le_mul h1 g1
 have h2:=Nat.mul_lt_mul'' h2 g2
 constructor
 ·have e1:x*n*(y*m)=x*y*(n*m):=by grind
  have e2:A*z*(C*z)=A*C*(z*z):=by grind
  rw [← e1,← e2];exact h1
 ·have e1:(x+1)*n*((y+1)*m)=(x+1)*(y+1)*(n*m):=by grind
  have e2:A*z*(C*z)=A*C*(z*z):=by grind
  rw [← e1,← e2];exact h2
theorem lead_mul {A C x y N M:Nat} (h:Lead A x N) (g:Lead C y M):x*y*2^(N+M)≤A*C*85070591730234615865843651857942052864∧A*C*85070591730234615865843651857942052864<(x+1)*(y+1)*2^(N+M):=by
 have e:=lead_mul' A C x y _ _ _ h.ge h.lt g.ge g.lt
 rw [← Nat.pow_add] at e
 exact e
theorem lead_prod {A C x y N M:Nat} (h:Lead A x N) (g:Lead C y M):85070591730234615865843651857942052864≤x*y∧(x+1)*(y+1)≤x*y + 18446744073709551616 + 18446744073709551616:=by
 have h1:=h.hi
 have h2:=g.hi
 have h3:=Nat.mul_le_mul h.lo g.lo
 have e:(x+1)*(y+1)=x*y+x+y+1:=by grind
 refine ⟨h3,?_⟩
 rw [e]
 generalize x*y=u
 omega
theorem high_facts (u v:Nat) (hv:v≤u + 18446744073709551616 + 18446744073709551616):u / 18446744073709551616 * 18446744073709551616≤u∧v≤(u / 18446744073709551616+8) * 18446744073709551616:=⟨by omega,by omega⟩
theorem low_facts (u v:Nat) (hv:v≤u + 18446744073709551616 + 18446744073709551616):u/9223372036854775808*9223372036854775808≤u∧v≤(u/9223372036854775808+8)*9223372036854775808:=⟨by omega,by omega⟩
theorem low_eq (u:Nat):u / 18446744073709551616*2+u % 18446744073709551616/9223372036854775808=u/9223372036854775808:=by omega
theorem low_bounds (u:Nat) (h1:85070591730234615865843651857942052864≤u) (h2:u / 18446744073709551616<9223372036854775808):9223372036854775808≤u/9223372036854775808∧u/9223372036854775808 < 18446744073709551616:=by
 constructor
 ·rw [Nat.le_div_iff_mul_le (by omega)];exact h1
 ·omega
theorem leadP_high {A C x y N M:Nat} (h:Lead A x N) (g:Lead C y M) (hh:9223372036854775808≤x*y / 18446744073709551616):LeadP (A*C) (x*y / 18446744073709551616) (N+M+64):=by
 obtain ⟨a1,a2⟩:=lead_mul h g
 obtain ⟨b1,b3⟩:=lead_prod h g
 have b4:x*y / 18446744073709551616 < 18446744073709551616:=by rw [Nat.div_lt_iff_lt_mul (by omega)];exact Nat.mul_lt_mul'' h.hi g.hi
 obtain ⟨c1,c2⟩:=high_facts _ _ b3
 have e64:2^(N+M+64)=18446744073709551616*2^(N+M):=by rw [Nat.pow_add,Nat.mul_comm]
 refine ⟨hh,b4,?_,?_⟩
 ·rw [e64,← Nat.mul_assoc];exact Nat.le_trans (Nat.mul_le_mul_right _ c1) a1
 ·rw [e64,← Nat.mul_assoc];exact Nat.lt_of_lt_of_le a2 (Nat.mul_le_mul_right _ c2)
theorem leadP_low {A C x y N M:Nat} (h:Lead A x N) (g:Lead C y M) (hh:x*y / 18446744073709551616<9223372036854775808):LeadP (A*C) (x*y / 18446744073709551616*2+x*y % 18446744073709551616/9223372036854775808) (N+M+63):=by
 obtain ⟨a1,a2⟩:=lead_mul h g
 obtain ⟨b1,b3⟩:=lead_prod h g
 obtain ⟨c1,c2⟩:=low_facts _ _ b3
 obtain ⟨d1,d2⟩:=low_bounds _ b1 hh
 have e64:2^(N+M+63)=9223372036854775808*2^(N+M):=by rw [Nat.pow_add,Nat.mul_comm]
 rw [low_eq]
 refine ⟨d1,d2,?_,?_⟩
 ·rw [e64,← Nat.mul_assoc];exact Nat.le_trans (Nat.mul_le_mul_right _ c1) a1
 ·rw [e64,← Nat.mul_assoc];exact Nat.lt_of_lt_of_le a2 (Nat.mul_le_mul_right _ c2)
theorem leadP_far {Z Z' p q K M:Nat} (h:LeadP Z p K) (g:LeadP Z' q M) (hk:M+1<K):Z' < Z:=by
 refine Nat.lt_of_mul_lt_mul_right (a:=85070591730234615865843651857942052864) (Nat.lt_of_lt_of_le g.lt (Nat.le_trans ?_ h.ge))
 have h1:2^(M+2)≤2^K:=Nat.pow_le_pow_right (by omega) (by omega)
 rw [Nat.pow_add] at h1
 have h2:p*(2^M*2^2)≤p*2^K:=Nat.mul_le_mul_left _ h1
 have h3:=h.lo
 have h4:=g.hi
 refine Nat.le_trans ?_ h2
 rw [Nat.mul_comm (2^M),← Nat.mul_assoc]
 exact Nat.mul_le_mul_right _ (by omega)
theorem leadP_near {Z Z' p q K:Nat} (h:LeadP Z p K) (g:LeadP Z' q K) (hk:q+8≤p):Z' < Z:=by
 refine Nat.lt_of_mul_lt_mul_right (a:=85070591730234615865843651857942052864) (Nat.lt_of_lt_of_le g.lt (Nat.le_trans ?_ h.ge))
 exact Nat.mul_le_mul_right _ hk
end Go.Proofs.YteipfplbcbaheaaGreatDoor

namespace Go.Proofs.YteipfplbcbaheaaGreatDoor
open Go.RowKit
set_option maxHeartbeats 4000000
set_option maxRecDepth 100000
def leadW (X:Nat):Nat:=topW X*2^lz (topW X)+(if (wd 18446744073709551616 X).length≤1 then 0 else (wd 18446744073709551616 X)[(wd 18446744073709551616 X).length-2]?.getD 0/2^(64-lz (topW X)))
def leadN (X:Nat):Nat:=64*((wd 18446744073709551616 X).length-1)+63-lz (topW X)
theorem lead_ok (X:Nat) (h:0<X):Lead X (leadW X) (leadN X):=by
 obtain ⟨t1,t2,-,-⟩:=top_pos X h
 obtain ⟨l1,l2,l3,-⟩:=lz_facts (topW X) t1 t2
 have hl:0<(wd 18446744073709551616 X).length:=by rw [Nat.pos_iff_ne_zero];intro e;rw [wd_len_zero (by omega)] at e;omega
 unfold leadW leadN
 by_cases h1:(wd 18446744073709551616 X).length≤1
 ·have hX:X < 18446744073709551616:=by
   have:=lt_of_wd_length (B:=18446744073709551616) (by omega) X 1 h1
   rw [Nat.pow_one] at this;exact this
  have e:topW X=X:=by unfold topW;rw [wd_word X h hX];rfl
  rw [if_pos h1,Nat.add_zero,show (wd 18446744073709551616 X).length-1=0 from by omega,Nat.mul_zero,Nat.zero_add]
  rw [e] at l1 l2 l3 ⊢
  exact lead_one X _ l1 l3 l2
 ·rw [if_neg h1]
  obtain ⟨m,hm⟩:∃ m,(wd 18446744073709551616 X).length=m+2:=⟨(wd 18446744073709551616 X).length-2,by omega⟩
  have e2:=vl_take_lt (wd 18446744073709551616 X) m (by omega) (wd_mem (by omega) X)
  have e3:=mem_getD (wd_mem (B:=18446744073709551616) (by omega) X) (by omega:0 < 18446744073709551616) m
  have e4:=vl_split 18446744073709551616 (wd 18446744073709551616 X) m (by omega)
  have e5:=vl_drop 18446744073709551616 (wd 18446744073709551616 X) (m+1) (by omega)
  rw [List.drop_eq_nil_of_le (by omega:(wd 18446744073709551616 X).length≤m+1+1)] at e5
  rw [vl_wd (by omega),e5] at e4
  rw [show (wd 18446744073709551616 X)[m+1]?.getD 0=topW X from by unfold topW;rw [hm];rfl] at e4
  rw [show (wd 18446744073709551616 X).length-2=m from by omega,show (wd 18446744073709551616 X).length-1=m+1 from by omega]
  simp only [vl,Nat.mul_zero,Nat.add_zero] at e4
  exact (lead_more X _ _ m _ (topW X) (lz (topW X)) rfl e4 e2 e3 l1 l3 l2).1
theorem leading_any (v:Value) (X:Nat) (hX:0<X) (w:World) (hv:Sl .u64 w v (wd 18446744073709551616 X)) (hl:(wd 18446744073709551616 X).length<134217728) (x:Nat) (N:Int) (hx:Hid (x=leadW X)) (hN:Hid (N=(leadN X:Int)-63)) :
  Calls Tryz.prog 221 #[v] w fun e w'=>e=.returned (.tuple #[.int .u64 (x:Int),.int .i64 N])∧w'=w:=by
 obtain ⟨t1,t2,-,-⟩:=top_pos X hX
 obtain ⟨hs,l2,l3,-⟩:=lz_facts (topW X) t1 t2
 have LZ:=hide (fun W=>lead_any (topW X) t1 t2 W)
 rcases hv.open with ⟨e,-⟩ | ⟨hp,b,o,c,rfl,hc,-,hcell⟩
 ·rw [wd_nil_iff (by omega)] at e;omega
 have hct:=hcell ((wd 18446744073709551616 X).length-1) (by omega)
 rw [show (wd 18446744073709551616 X)[(wd 18446744073709551616 X).length-1]?.getD 0=topW X from rfl] at hct
 have E0:IntKind.u64.wrap (((topW X:Nat):Int)*2^lz (topW X))=((topW X*2^lz (topW X):Nat):Int):=by
  have e:((topW X:Nat):Int)*2^lz (topW X)=((topW X*2^lz (topW X):Nat):Int):=by simp
  rw [e,IntKind.wrap_u64];omega
 unfold leadW at hx
 unfold leadN at hN
 by_cases h1:(wd 18446744073709551616 X).length≤1
 ·have hl1:(wd 18446744073709551616 X).length=1:=by omega
  rw [if_pos h1,Nat.add_zero] at hx
  rw [hl1] at hct hN ⊢
  rw [Nat.sub_self,Nat.add_zero] at hct
  have hNN:Hid (N=-((lz (topW X):Nat):Int)):=by
   show _=_;rw [unhide hN];omega
  clear hcell hN hv
  generalize topW X*2^lz (topW X)=y at *
  generalize lz (topW X)=s at *
  generalize topW X=t at *
  have HX:x=y:=unhide hx
  subst HX
  have HN:N=-(s:Int):=unhide hNN
  subst HN
  go_enter Tryz.func221,Tryz.ntmps221
  go_wp2_with fail
  refine (unhide LZ _).mono ?_
  rintro e w1 ⟨rfl,hw⟩
  obtain rfl:=hw.symm
  clear hw
  go_wp2
  go_ret2
  exact ⟨rfl,rfl⟩
 ·rw [if_neg h1] at hx
  have hc2:=hcell ((wd 18446744073709551616 X).length-2) (by omega)
  have e3:=mem_getD (wd_mem (B:=18446744073709551616) (by omega) X) (by omega:0 < 18446744073709551616) ((wd 18446744073709551616 X).length-2)
  generalize (wd 18446744073709551616 X)[(wd 18446744073709551616 X).length-2]?.getD 0=y at *
  have hu:y/2^(64-lz (topW X))<2^lz (topW X):=by
   have hB:18446744073709551616=2^(64-lz (topW X))*2^lz (topW X):=by rw [← Nat.pow_add,show 64-lz (topW X)+lz (topW X)=64 from by omega]
   rw [Nat.div_lt_iff_lt_mul (Nat.pow_pos (by omega)),Nat.mul_comm,← hB];exact e3
  have hub:y/2^(64-lz (topW X)) < 18446744073709551616:=Nat.lt_of_le_of_lt (Nat.div_le_self _ _) e3
  have hor:topW X*2^lz (topW X) ||| y/2^(64-lz (topW X))=topW X*2^lz (topW X)+y/2^(64-lz (topW X)):=by
   rw [Nat.mul_comm,Nat.two_pow_add_eq_or_of_lt hu]
  have E1:bits .or .u64 ((topW X*2^lz (topW X):Nat):Int) ((y/2^(64-lz (topW X)):Nat):Int)=((topW X*2^lz (topW X)+y/2^(64-lz (topW X)):Nat):Int):=by
   rw [bits_or_u64_nat _ _ l2 hub,hor]
  have E2:((y:Nat):Int)/2^(64-lz (topW X))=((y/2^(64-lz (topW X)):Nat):Int):=by simp
  have E3:(64-((lz (topW X):Nat):Int)).toNat=64-lz (topW X):=by omega
  clear hcell hv hor hu
  generalize topW X*2^lz (topW X)+y/2^(64-lz (topW X))=z at *
  generalize y/2^(64-lz (topW X))=q at *
  generalize topW X*2^lz (topW X)=p at *
  generalize lz (topW X)=s at *
  generalize topW X=t at *
  generalize (wd 18446744073709551616 X).length=n at *
  have HX:x=z:=unhide hx
  subst HX
  have HN:N=((n:Int)-1)*64-s:=by rw [unhide hN];omega
  subst HN
  obtain ⟨m,rfl⟩:∃ m,n=m+2:=⟨n-2,by omega⟩
  rw [show m+2-1=m+1 from rfl] at hct
  rw [show m+2-2=m from rfl] at hc2
  have hm0:(0:Int)≤(m:Int):=by omega
  clear hx hN
  go_enter Tryz.func221,Tryz.ntmps221
  go_wp2_with fail
  refine (unhide LZ _).mono ?_
  rintro e w1 ⟨rfl,hw⟩
  obtain rfl:=hw.symm
  clear hw
  go_wp2
  go_ret2
  refine ⟨?_,rfl⟩
  go_num
end Go.Proofs.YteipfplbcbaheaaGreatDoor

namespace Go.Proofs.YteipfplbcbaheaaGreatDoor
open Go.RowKit
set_option maxHeartbeats 4000000
set_option maxRecDepth 100000
def prodW (A C:Nat):Nat:=if leadW A*leadW C / 18446744073709551616<9223372036854775808 then leadW A*leadW C / 18446744073709551616*2+leadW A*leadW C % 18446744073709551616/9223372036854775808 else leadW A*leadW C / 18446744073709551616
def prodK (A C:Nat):Nat:=if leadW A*leadW C / 18446744073709551616<9223372036854775808 then leadN A+leadN C+63 else leadN A+leadN C+64
theorem prod_ok (A C:Nat) (hA:0<A) (hC:0<C):LeadP (A*C) (prodW A C) (prodK A C):=by
 have h:=lead_ok A hA
 have g:=lead_ok C hC
 unfold prodW prodK
 split
 ·exact leadP_low h g (by assumption)
 ·exact leadP_high h g (by omega)
theorem leadN_le (X:Nat) (n:Nat) (h:(wd 18446744073709551616 X).length<n):leadN X≤64*n:=by unfold leadN;omega
theorem prodK_le (A C n:Nat) (hA:(wd 18446744073709551616 A).length<n) (hC:(wd 18446744073709551616 C).length<n):prodK A C≤128*n+64:=by
 have h1:=leadN_le A n hA
 have h2:=leadN_le C n hC
 unfold prodK
 split <;> omega
theorem leadingProduct_any (va vc:Value) (A C:Nat) (hA:0<A) (hC:0<C) (w:World) (ha:Sl .u64 w va (wd 18446744073709551616 A)) (hc:Sl .u64 w vc (wd 18446744073709551616 C)) (hla:(wd 18446744073709551616 A).length<134217728) (hlc:(wd 18446744073709551616 C).length<134217728) (p:Nat) (K:Int) (hp:Hid (p=prodW A C)) (hK:Hid (K=(prodK A C:Int)-126)) :
  Calls Tryz.prog 198 #[va,vc] w fun e w'=>e=.returned (.tuple #[.int .u64 (p:Int),.int .i64 K])∧w'=w:=by
 have LA:=hide (leading_any va A hA w ha hla (leadW A) ((leadN A:Int)-63) rfl rfl)
 have LC:=hide (leading_any vc C hC w hc hlc (leadW C) ((leadN C:Int)-63) rfl rfl)
 have ba:=(lead_ok A hA).hi
 have bc:=(lead_ok C hC).hi
 have na:=leadN_le A _ hla
 have nc:=leadN_le C _ hlc
 have MU:=hide (fun W=>Tryz.bits_Mul64 (leadW A) (leadW C) ba bc W)
 have hzB:leadW A*leadW C / 18446744073709551616 < 18446744073709551616:=by rw [Nat.div_lt_iff_lt_mul (by omega)];exact Nat.mul_lt_mul'' ba bc
 have hzL:leadW A*leadW C % 18446744073709551616 < 18446744073709551616:=Nat.mod_lt _ (by omega)
 unfold prodW at hp
 unfold prodK at hK
 obtain ⟨aa,ca,rfl,-,-⟩:=ha
 obtain ⟨ac,cc,rfl,-,-⟩:=hc
 generalize (wd 18446744073709551616 A).length=la at *
 generalize (wd 18446744073709551616 C).length=lc at *
 generalize leadW A*leadW C / 18446744073709551616=hi at *
 generalize leadW A*leadW C % 18446744073709551616=lo at *
 generalize leadW A=x at *
 generalize leadW C=y at *
 generalize leadN A=n at *
 generalize leadN C=m at *
 by_cases hh:hi<9223372036854775808
 ·rw [if_pos hh] at hp hK
  have d1:((hi:Int)/9223372036854775808==0)=true:=beq_iff_eq.2 (by omega)
  have hor:bits .or .u64 ((hi*2:Nat):Int) ((lo/9223372036854775808:Nat):Int)=((hi*2+lo/9223372036854775808:Nat):Int):=by
   rw [bits_or_u64_nat _ _ (by omega) (by omega)]
   have:=Nat.two_pow_add_eq_or_of_lt (i:=1) (b:=lo/9223372036854775808) (by omega) hi
   rw [Nat.pow_one,Nat.mul_comm] at this
   rw [this]
  have e1:IntKind.u64.wrap ((hi:Int)*2)=((hi*2:Nat):Int):=by rw [IntKind.wrap_u64];omega
  have e2:(lo:Int)/9223372036854775808=((lo/9223372036854775808:Nat):Int):=by simp
  generalize hi*2+lo/9223372036854775808=z at *
  generalize lo/9223372036854775808=z2 at *
  generalize hi*2=z1 at *
  have HP:p=z:=unhide hp
  subst HP
  have HK:K=(n:Int)+m-63:=by rw [unhide hK];omega
  subst HK
  clear hp hK
  go_enter Tryz.func198,Tryz.ntmps198
  go_wp2_with fail
  refine (unhide LA).mono ?_
  rintro e w1 ⟨rfl,hw⟩
  obtain rfl:=hw.symm
  clear hw
  go_wp2_with fail
  refine (unhide LC).mono ?_
  rintro e w1 ⟨rfl,hw⟩
  obtain rfl:=hw.symm
  clear hw
  go_wp2_with fail
  refine (unhide MU _).mono ?_
  rintro e w1 ⟨rfl,hw⟩
  obtain rfl:=hw.symm
  clear hw
  go_wp2
  go_ret2
  refine ⟨?_,rfl⟩
  go_num
 ·rw [if_neg hh] at hp hK
  have d1:((hi:Int)/9223372036854775808==0)=false:=beq_eq_false_iff_ne.2 (by omega)
  have HP:p=hi:=unhide hp
  subst HP
  have HK:K=(n:Int)+m-62:=by rw [unhide hK];omega
  subst HK
  clear hp hK
  go_enter Tryz.func198,Tryz.ntmps198
  go_wp2_with fail
  refine (unhide LA).mono ?_
  rintro e w1 ⟨rfl,hw⟩
  obtain rfl:=hw.symm
  clear hw
  go_wp2_with fail
  refine (unhide LC).mono ?_
  rintro e w1 ⟨rfl,hw⟩
  obtain rfl:=hw.symm
  clear hw
  go_wp2_with fail
  refine (unhide MU _).mono ?_
  rintro e w1 ⟨rfl,hw⟩
  obtain rfl:=hw.symm
  clear hw
  go_wp2
  go_ret2
  refine ⟨?_,rfl⟩
  go_num
end Go.Proofs.YteipfplbcbaheaaGreatDoor
