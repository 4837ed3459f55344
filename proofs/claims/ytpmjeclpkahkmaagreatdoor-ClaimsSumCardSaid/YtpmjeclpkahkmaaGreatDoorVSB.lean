/- Regions that draw their order: what hold -/
import Derived.Deep.RegionHeld
import Derived.RangeFuncCalls
import Derived.OrdersIn
import Derived.Shelf.Bits.Mul64
import Derived.Shelf.Small.Bits
import Derived.Test.YtpmjeclpkahkmaaGreatDoorProg
import Derived.Laws.Bits64b
import Derived.Shelf.Strings.Prefix
import Derived.Test.YtpmjeclpkahkmaaGreatDoorVBase
namespace Go.Proofs.YtpmjeclpkahkmaaGreatDoor
set_option linter.unusedVariables false
open Go.Proofs.Tryz
open Go.RowKit
def came (d:Nat→Bool) (i:Nat):Nat→Bool:=fun j=>if j=i then true else d j
theorem oq (d:Nat→Bool) (i:Nat):came d i i=true:=by simp[came]
theorem iw (d:Nat→Bool) {i j:Nat} (h:j≠i):came d i j=d j:=by simp[came,h]
theorem zen {P:Program} {id:Nat} {ops:Array Oper} {Q:Exit→Act→World→Prop} {base:Act} {W0:World} (hm:P.follows .mixedOrders=true)
  (hlow:∀ i o,ops[i]? = some o→∀ e ∈ o.after,Region.binds .any e=true→e.on<i)
  (J:(Nat→Bool)→Act→World→Prop) (h0:J (fun _=>false) base W0.drew)
  (hend:∀ d a w,(∀ i,i<ops.size→d i=true)→J d a w→Q .normal a w)
  (hstep:∀ d i o a w,ops[i]? = some o→d i=false→(∀ e ∈ o.after,Region.binds .any e=true→d e.on=true)→J d a w→wpOp P ops Q i (J (came d i)) a w) :
  (Code.region id ops true).wp P Q base W0:=by(
refine wp_region_any hm ?_
show wpAny P .any ops Q ops.size (Array.replicate ops.size false) base W0.drew
have none_ready:∀ (l:Array Bool),l.toList.count false=0→Region.ready .any ops l=[]:=fun l hc=>by
 refine List.eq_nil_iff_forall_not_mem.2 fun i hi=>?_
 obtain⟨hf,o,ho,hd⟩:=mem_ready.1 hi
 rw[List.count_eq_zero] at hc
 rcases Nat.lt_or_ge i l.size with h1 | h1
 ·simp only[Array.getD_eq_getD_getElem?,Array.getElem?_eq_getElem h1,Option.getD_some] at hf
  exact hc (by rw[← hf];exact Array.getElem_mem_toList h1)
 ·simp[Array.getElem?_eq_none h1] at hf
have end_:∀ (l:Array Bool) a w,l.size=ops.size→J (fun i=>l.getD i false) a w→Region.ready .any ops l=[]→Q .normal a w:=fun l a w hs hJ hr=>by
 refine hend _ a w (fun i=>?_) hJ
 induction i using Nat.strongRecOn with
 | _ i ih =>
  intro hi
  cases e:l.getD i false with
  | true=>rfl
  | false =>
   exfalso
   have hmem:i ∈ Region.ready .any ops l:=mem_ready.2 ⟨by
    simp only[Array.getD_eq_getD_getElem?,Array.getElem?_eq_getElem (show i<l.size by omega),Option.getD_some] at e ⊢
    exact e,ops[i],Array.getElem?_eq_getElem hi,fun e he hb=>by
     have hl:=hlow i ops[i] (Array.getElem?_eq_getElem hi) e he hb
     exact ih e.on hl (by omega)⟩
   rw[hr] at hmem
   simp at hmem
have key:∀ n (l:Array Bool) a w,l.size=ops.size∧l.toList.count false=n∧J (fun i=>l.getD i false) a w→wpAny P .any ops Q n l a w:=by
 intro n
 induction n with
 | zero=>rintro l a w ⟨hs,hc,hJ⟩;exact⟨none_ready l hc,end_ l a w hs hJ (none_ready l hc)⟩
 | succ n ih =>
  rintro l a w ⟨hs,hc,hJ⟩
  refine⟨end_ l a w hs hJ,fun i hi=>?_⟩
  obtain⟨hf,o,ho,hd⟩:=mem_ready.1 hi
  have hlt:i<l.size:=by rw[hs];exact (Array.getElem?_eq_some_iff.1 ho).1
  have hg:l[i]=false:=by simpa [hlt] using hf
  have hf':l.getD i false=false:=by simp[hlt,hg]
  refine wpOp_mono (fun a' w' h'=>ih _ a' w' ⟨by simp[hs],?_,?_⟩) (hstep _ i o a w ho hf' hd hJ)
  ·rw[Array.toList_setIfInBounds,List.count_set (by simpa using hlt)]
   simp[hg,hc]
  ·have e:(fun j=>(l.setIfInBounds i true).getD j false)=came (fun j=>l.getD j false) i:=funext fun j=>by
    by_cases hj:j=i
    ·subst hj;simp[came,hlt]
    ·simp[came,hj,Array.getElem?_setIfInBounds_ne (Ne.symm hj)]
   rw[e];exact h'
exact key _ _ _ _ ⟨by simp,by simp,by
 have e:(fun i=>(Array.replicate ops.size false).getD i false)=fun _=>false:=funext fun i=>by
  simp only[Array.getD_eq_getD_getElem?,Array.getElem?_replicate]
  split <;> rfl
 rw[e];exact h0⟩)
theorem zzh (a:Act) (d t:Nat) (v:Value) (h:t≠d):(a.put (some d) v).eval (.tmp t)=a.eval (.tmp t):=by
 show (a.tmps.setIfInBounds d v).getD t undef=a.tmps.getD t undef
 simp only[Array.getD_eq_getD_getElem?,Array.getElem?_setIfInBounds_ne (Ne.symm h)]
theorem at_eq (a:Act) (d:Nat) (v:Value) (h:d<a.tmps.size):(a.put (some d) v).eval (.tmp d)=v:=by
 show (a.tmps.setIfInBounds d v).getD d undef=v
 simp[h]
theorem zht {a:Act} {t:Nat} {v:Value} (h:a.eval (.tmp t)=v) (hs:t<a.tmps.size):a.tmps[t]? = some v:=by(
have e:a.tmps.getD t undef=v:=h
rw[Array.getD_eq_getD_getElem?,Array.getElem?_eq_getElem hs] at e
rw[Array.getElem?_eq_getElem hs]
exact congrArg some e)
theorem zfj (a:Act) (d t:Nat) (v:Value):(a.put (some d) v).tmps[t]? = if d=t then (if d<a.tmps.size then some v else none) else a.tmps[t]?:=by
 show (a.tmps.setIfInBounds d v)[t]? = _
 rw[Array.getElem?_setIfInBounds]
theorem zba (a:Act) (d:Nat) (v:Value):(a.put (some d) v).tmps.size=a.tmps.size:=by
 show (a.tmps.setIfInBounds d v).size=a.tmps.size
 simp
def bj (base:Act) (ps:List (Nat × Value)):Act:=ps.foldl (fun b p=>b.put (some p.1) p.2) base
theorem zdx:∀ (ps:List (Nat × Value)) (base a:Act),a.defers=base.defers→a.tmps.size=base.tmps.size→(∀ p ∈ ps,a.tmps[p.1]? = some p.2)→(∀ t,(∀ p ∈ ps,t≠p.1)→a.tmps[t]? = base.tmps[t]?)→a=bj base ps
 | [],base,a,h1,_,_,h4=>by
  cases a
  cases base
  simp only at h1 h4
  show Act.mk _ _=Act.mk _ _
  rw[Array.ext_getElem? (fun t=>h4 t (fun p hp=>by simp at hp)),h1]
 | (d,v)::ps,base,a,h1,h2,h3,h4=>by
  have hd:=h3 (d,v) (by simp)
  simp only at hd
  have hlt:d<base.tmps.size:=by
   rw[← h2]
   exact (Array.getElem?_eq_some_iff.1 hd).1
  refine zdx ps (base.put (some d) v) a h1 (by rw[zba];exact h2) (fun p hp=>h3 p (by simp[hp])) (fun t ht=>?_)
  rw[zfj]
  by_cases e:d=t
  ·subst e
   rw[if_pos rfl,if_pos hlt]
   exact hd
  ·rw[if_neg e]
   refine h4 t (fun p hp=>?_)
   rcases List.mem_cons.1 hp with rfl | hp
   ·exact Ne.symm e
   ·exact ht p hp
theorem zpi {base a:Act} {t:Nat} (h:a.tmps[t]? = base.tmps[t]?):a.eval (.tmp t)=base.eval (.tmp t):=by
 show a.tmps.getD t undef=base.tmps.getD t undef
 simp only[Array.getD_eq_getD_getElem?,h]
theorem al {P:Program} {Q:Exit→Act→World→Prop} {K:Act→World→Prop} {a:Act} {w w':World} {o:Oper} {v:Value} (hr:(execOp a.eval o).run P w=.ok (.value v) w') (h:K (a.put o.dst v) w'):o.wp P a w K Q:=by(
unfold Oper.wp
rw[hr]
exact h)
theorem zal {P:Program} {Q:Exit→Act→World→Prop} {K:Act→World→Prop} {a:Act} {w w':World} {o:Oper} (hr:(execOp a.eval o).run P w=.ok .skip w') (h:K (a.put o.dst undef) w'):o.wp P a w K Q:=by(
unfold Oper.wp
rw[hr]
exact h)
theorem ay {P:Program} {Q:Exit→Act→World→Prop} {K:Act→World→Prop} {a:Act} {w:World} {o:Oper} {f:FuncId} {args:Array Value} (hr:(execOp a.eval o).run P w=.ok (.enter f args) w) {R:World→Value→Prop} (hc:Calls P f args w fun e w'=>∃ v,e=.returned v∧R w' v) (h:∀ v w',R w' v→K (a.put o.dst v) w'):o.wp P a w K Q:=by(
unfold Oper.wp
rw[hr]
refine hc.mono ?_
rintro e w' ⟨v,rfl,hv⟩
exact h v w' hv)
end Go.Proofs.YtpmjeclpkahkmaaGreatDoor
namespace Go.Proofs
open Go.Proofs.Tryz
open Go.Shelf
def Tryz.lays264_ren : Go.Shelf.Ren := ⟨fun | 264 => 218 | n => n, fun | 46 => 321 | 53 => 24 | n => n, fun | n => n⟩
theorem Tryz.lays264 : Go.Proofs.Lays.n264 Tryz.prog Tryz.lays264_ren := {
  mixed := by kernel_rfl
  f264 := Tryz.func218.trans (congrArg some (by kernel_rfl))
  t46 := Tryz.underlying321
  a46 := Tryz.isAgg321
  z46 := Tryz.sizeOf321
  v46 := Tryz.zeroValue321
  t53 := Tryz.underlying24
  a53 := Tryz.isAgg24
  z53 := Tryz.sizeOf24
  v53 := Tryz.zeroValue24 }
def Tryz.lays134_ren : Go.Shelf.Ren := ⟨fun | 129 => 302 | 134 => 273 | n => n, fun | 3 => 3 | 4 => 4 | 5 => 5 | 9 => 9 | 46 => 321 | 53 => 24 | n => n, fun | n => n⟩
theorem Tryz.lays134 : Go.Proofs.Lays.n134 Tryz.prog Tryz.lays134_ren := {
  mixed := by kernel_rfl
  f129 := Tryz.func302.trans (congrArg some (by kernel_rfl))
  f134 := Tryz.func273.trans (congrArg some (by kernel_rfl))
  t3 := Tryz.underlying3
  a3 := Tryz.isAgg3
  z3 := Tryz.sizeOf3
  v3 := Tryz.zeroValue3
  t4 := Tryz.underlying4
  a4 := Tryz.isAgg4
  z4 := Tryz.sizeOf4
  v4 := Tryz.zeroValue4
  t5 := Tryz.underlying5
  a5 := Tryz.isAgg5
  z5 := Tryz.sizeOf5
  v5 := Tryz.zeroValue5
  t9 := Tryz.underlying9
  a9 := Tryz.isAgg9
  z9 := Tryz.sizeOf9
  v9 := Tryz.zeroValue9
  t46 := Tryz.underlying321
  a46 := Tryz.isAgg321
  z46 := Tryz.sizeOf321
  v46 := Tryz.zeroValue321
  t53 := Tryz.underlying24
  a53 := Tryz.isAgg24
  z53 := Tryz.sizeOf24
  v53 := Tryz.zeroValue24 }
theorem Tryz.bits_Mul64 (x y:Nat) (hx:x < 18446744073709551616) (hy:y < 18446744073709551616) (w:World) :
  Calls prog 218 #[.int .u64 x,.int .u64 y] w fun e w'=>e=.returned (.tuple #[.int .u64 ((x*y / 18446744073709551616:Nat):Int),.int .u64 ((x*y % 18446744073709551616:Nat):Int)])∧w'=w:=Any.bits_Mul64 Tryz.lays264 x y hx hy w
theorem Tryz.bits_LeadingZeros64 (x:Int) (w:World) (h0:0≤x) (h1:x≤18446744073709551615) :
  Calls prog 273 #[.int .u64 x] w fun e w'=>e=.returned (.int .i64 (64-(Lib.bitLen x.toNat:Int)))∧w'=w:=Any.bits_LeadingZeros64 Tryz.lays134 x w h0 h1
end Go.Proofs
namespace Go.Proofs.YtpmjeclpkahkmaaGreatDoor
open Go.Proofs.Tryz
theorem zyy (u Y n1 n0 u1 q r:Nat) (hY:Y=n1*4294967296+n0) (e:u=q*n1+r) (hr:r<n1) (hu1:u1<4294967296):(u*4294967296+u1)/Y≤q:=by(
have h0:0<Y:=by omega
have:u*4294967296+u1<(q+1)*(n1*4294967296):=by
 have h1:u+1≤(q+1)*n1:=by rw[e,Nat.add_mul];omega
 have h2:=Nat.mul_le_mul_right 4294967296 h1
 grind
apply Nat.le_of_lt_succ
rw[Nat.div_lt_iff_lt_mul h0]
subst hY
grind)
theorem qgj (u Y n1 n0 u1 q r:Nat) (hY:Y=n1*4294967296+n0) (e:u=q*n1+r) (hu:u<Y) (hu1:u1<4294967296) (hc:4294967296≤q∨4294967296*r+u1<q*n0):(u*4294967296+u1)/Y<q:=by(
have h0:0<Y:=by omega
rw[Nat.div_lt_iff_lt_mul h0]
rcases hc with hc | hc
·have h1:4294967296*Y≤q*Y:=Nat.mul_le_mul_right _ hc
 omega
·subst hY e
 grind)
theorem qgi (u Y n1 n0 u1 q r:Nat) (hY:Y=n1*4294967296+n0) (e:u=q*n1+r) (hu:u<Y) (hQ:(u*4294967296+u1)/Y≤q) (hc:q*n0≤4294967296*r+u1):q=(u*4294967296+u1)/Y:=by(
have h0:0<Y:=by omega
refine Nat.le_antisymm ?_ hQ
rw[Nat.le_div_iff_mul_le h0]
subst hY e
grind)
theorem qgk (u Y n1 n0 u1 q r:Nat) (hY:Y=n1*4294967296+n0) (hn0:n0<4294967296) (e:u=q*n1+r) (hu:u<Y) (hr:4294967296≤r):q<4294967296∧q*n0≤4294967296*r+u1:=by(
have hq:q<4294967296:=by
 rcases Nat.lt_or_ge q 4294967296 with h | h
 ·exact h
 ·have:=Nat.mul_le_mul_right n1 h
  omega
refine⟨hq,?_⟩
have h1:q*n0≤4294967296*4294967296:=Nat.mul_le_mul (by omega) (by omega)
omega)
theorem zyx (u Y u1:Nat) (hu:u<Y) (hu1:u1<4294967296):(u*4294967296+u1)/Y<4294967296:=by
 rw[Nat.div_lt_iff_lt_mul (by omega)]
 omega
theorem qmy (N y P Y u L u1 u0 q1 r1 q0 r0:Nat) (hP:0<P) (hY:Y=y*P) (hN:N*P=u*18446744073709551616+L) (hL:L=u1*4294967296+u0) (e1:u*4294967296+u1=q1*Y+r1) (e0:r1*4294967296+u0=q0*Y+r0) (h0:r0<Y):q1*4294967296+q0=N/y∧r0/P=N%y:=by(
have h:N*P=(q1*4294967296+q0)*(y*P)+r0:=by
 subst hL hY
 have:(u*4294967296+u1)*4294967296=(q1*(y*P)+r1)*4294967296:=by rw[e1]
 grind
subst hY
have hd:r0=(N-(q1*4294967296+q0)*y)*P:=by
 rw[Nat.sub_mul,h,Nat.mul_assoc];omega
have hle:(q1*4294967296+q0)*y≤N:=by
 have:(q1*4294967296+q0)*y*P≤N*P:=by rw[h,Nat.mul_assoc];omega
 exact Nat.le_of_mul_le_mul_right this hP
have hlt:N-(q1*4294967296+q0)*y<y:=by
 rw[hd] at h0
 exact Nat.lt_of_mul_lt_mul_right h0
have hN2:N=(q1*4294967296+q0)*y+(N-(q1*4294967296+q0)*y):=by omega
constructor
·refine (Nat.div_eq_of_lt_le ?_ ?_).symm
 ·exact hle
 ·rw[Nat.add_mul];omega
·rw[hd,Nat.mul_div_cancel _ hP]
 have:=Nat.mod_eq_of_lt hlt
 conv=>rhs;rw[hN2]
 rw[Nat.mul_comm _ y,Nat.mul_add_mod,Nat.mul_comm y,this])
theorem zss (hi lo s:Nat) (hs:s≤63) (hlo:lo<18446744073709551616):(hi*2^s) ||| (lo/2^(64-s))=hi*2^s+lo/2^(64-s)∧lo/2^(64-s)<2^s:=by(
have hp:18446744073709551616=2^s*2^(64-s):=by rw[← Nat.pow_add,show s+(64-s)=64 from by omega]
have hb:lo/2^(64-s)<2^s:=by
 rw[Nat.div_lt_iff_lt_mul (Nat.pow_pos (by omega)),← hp];exact hlo
refine⟨?_,hb⟩
rw[Nat.mul_comm hi,Nat.two_pow_add_eq_or_of_lt hb])
theorem qmn (hi lo s:Nat) (hs:s≤63):(hi*18446744073709551616+lo)*2^s=(hi*2^s+lo/2^(64-s))*18446744073709551616+lo*2^s%18446744073709551616:=by(
have hp:18446744073709551616=2^(64-s)*2^s:=by rw[← Nat.pow_add,show (64-s)+s=64 from by omega]
have e:lo*2^s/18446744073709551616=lo/2^(64-s):=by
 rw[hp,Nat.mul_div_mul_right _ _ (Nat.pow_pos (by omega))]
have:=Nat.div_add_mod (lo*2^s) 18446744073709551616
rw[e] at this
grind)
theorem qja (x2 x1 x0 f s P Rl Yl R Y q r:Nat) (hR:R=Rl+P*(x0 + 18446744073709551616*(x1 + 18446744073709551616*x2))) (hY:Y=Yl+P*(s + 18446744073709551616*f)) (hl:Rl<P) (hx0:x0 < 18446744073709551616) (e:x2 * 18446744073709551616+x1=q*f+r) (hr:r<f):R<(q+1)*Y:=by(
have h1:x2 * 18446744073709551616+x1+1≤(q+1)*f:=by rw[e,Nat.add_mul];omega
have h2:(x2 * 18446744073709551616+x1+1)*(18446744073709551616*P)≤(q+1)*f*(18446744073709551616*P):=Nat.mul_le_mul_right _ h1
have h3:R<(x2 * 18446744073709551616+x1+1)*(18446744073709551616*P):=by
 have h4:(x0+1)*P≤18446744073709551616*P:=Nat.mul_le_mul_right _ hx0
 subst hR
 grind
have h5:(q+1)*f*(18446744073709551616*P)≤(q+1)*Y:=by
 subst hY
 grind
omega)
theorem qmw (x2 x1 x0 f s P Rl Yl R Y q r:Nat) (hR:R=Rl+P*(x0 + 18446744073709551616*(x1 + 18446744073709551616*x2))) (hY:Y=Yl+P*(s + 18446744073709551616*f)) (hl:Rl<P) (e:x2 * 18446744073709551616+x1=q*f+r) (hc:r * 18446744073709551616+x0<q*s):R<q*Y:=by(
have h1:x2 * 18446744073709551616 * 18446744073709551616+x1 * 18446744073709551616+x0+1≤q*(s + 18446744073709551616*f):=by
 have:(x2 * 18446744073709551616+x1) * 18446744073709551616=(q*f+r) * 18446744073709551616:=by rw[e]
 grind
have h2:(x2 * 18446744073709551616 * 18446744073709551616+x1 * 18446744073709551616+x0+1)*P≤q*(s + 18446744073709551616*f)*P:=Nat.mul_le_mul_right _ h1
subst hR hY
grind)
open Go.RowKit
structure zjk (base:Act) (H:(Nat→Bool)→World→Prop) (C:Nat→World→Value→Prop) (T:Nat→Nat) (m:Nat) (d:Nat→Bool) (a:Act) (w:World):Prop where
 mem:H d w
 size:a.tmps.size=base.tmps.size
 defers:a.defers=base.defers
 rest:∀ t,(∀ j,j<m→t≠T j)→a.tmps[t]? = base.tmps[t]?
 has:∀ i,i<m→d i=true→C i w (a.eval (.tmp (T i)))
theorem zjk.next {base:Act} {H:(Nat→Bool)→World→Prop} {C:Nat→World→Value→Prop} {T:Nat→Nat} {m:Nat} {d:Nat→Bool} {a:Act} {w:World} (h:zjk base H C T m d a w)
  (hinj:∀ i j,i<m→j<m→T i=T j→i=j) (hT:∀ i,i<m→T i<base.tmps.size)
  (i:Nat) (hi:i<m) (v:Value) (w':World) (hH:H (came d i) w') (hC:∀ j,j<m→d j=true→∀ u,C j w u→C j w' u) (hv:C i w' v):zjk base H C T m (came d i) (a.put (some (T i)) v) w' where
 mem:=hH
 size:=by rw[zba];exact h.size
 defers:=h.defers
 rest:=fun t ht=>by rw[zfj,if_neg (fun e=>ht i hi e.symm)];exact h.rest t ht
 has:=fun j hj hd=>by
  by_cases e:j=i
  ·subst e
   rw[at_eq a (T j) v (by rw[h.size];exact hT j hj)]
   exact hv
  ·rw[iw d e] at hd
   rw[zzh a (T i) (T j) v (fun e2=>e (hinj j i hj hi e2))]
   exact hC j hj hd _ (h.has j hj hd)
theorem zjk.eval {base:Act} {H:(Nat→Bool)→World→Prop} {C:Nat→World→Value→Prop} {T:Nat→Nat} {m:Nat} {d:Nat→Bool} {a:Act} {w:World} (h:zjk base H C T m d a w) (t:Nat) (ht:∀ j,j<m→t≠T j):a.eval (.tmp t)=base.eval (.tmp t):=by
 show a.tmps.getD t undef=base.tmps.getD t undef
 simp only[Array.getD_eq_getD_getElem?,h.rest t ht]
theorem zjk.puts {base:Act} {H:(Nat→Bool)→World→Prop} {C:Nat→World→Value→Prop} {T:Nat→Nat} {m:Nat} {d:Nat→Bool} {a:Act} {w:World} (h:zjk base H C T m d a w) (hT:∀ i,i<m→T i<base.tmps.size) (V:Nat→Value) (hV:∀ i,i<m→a.eval (.tmp (T i))=V i):a=bj base ((List.range m).map fun i=>(T i,V i)):=by(
refine zdx _ base a h.defers h.size (fun p hp=>?_) (fun t ht=>?_)
·obtain⟨i,hi,rfl⟩:=List.mem_map.1 hp
 have hi':=List.mem_range.1 hi
 exact zht (hV i hi') (by rw[h.size];exact hT i hi')
·refine h.rest t (fun j hj e=>?_)
 exact ht (T j,V j) (List.mem_map.2 ⟨j,List.mem_range.2 hj,rfl⟩) e)
theorem zbb {P:Program} {id:Nat} {ops:Array Oper} {Q:Exit→Act→World→Prop} {base:Act} {W0:World} (hm:P.follows .mixedOrders=true)
  (hlow:∀ i o,ops[i]? = some o→∀ e ∈ o.after,Region.binds .any e=true→e.on<i)
  (hg:∀ (i:Nat) (o:Oper),ops[i]? = some o→o.guard=none)
  (H:(Nat→Bool)→World→Prop) (C:Nat→World→Value→Prop) (T:Nat→Nat) (m:Nat) (hsz:ops.size=m+1)
  (hinj:∀ i j,i<m→j<m→T i=T j→i=j) (hT:∀ i,i<m→T i<base.tmps.size) (h0:H (fun _=>false) W0.drew)
  (hall:∀ i,i<m→∃ o,ops[m]? = some o∧∃ e ∈ o.after,Region.binds .any e=true∧e.on=i)
  (hstep:∀ (d:Nat→Bool) (i:Nat) (o:Oper) (a:Act) (w:World) (K:Act→World→Prop),i<m→ops[i]? = some o→d i=false→H d w→(∀ t,(∀ j,j<m→t≠T j)→a.eval (.tmp t)=base.eval (.tmp t))→(∀ e ∈ o.after,Region.binds .any e=true→d e.on=true∧C e.on w (a.eval (.tmp (T e.on))))→(∀ v w',H (came d i) w'→(∀ j,j<m→d j=true→∀ u,C j w u→C j w' u)→C i w' v→K (a.put (some (T i)) v) w')→o.wp P a w K Q)
  (Fin:Act→World→Prop)
  (hlast:∀ (d:Nat→Bool) (o:Oper) (a:Act) (w:World) (K:Act→World→Prop),ops[m]? = some o→(∀ i,i<m→d i=true)→zjk base H C T m d a w→(∀ a' w',Fin a' w'→K a' w')→o.wp P a w K Q)
  (hend:∀ a w,Fin a w→Q .normal a w) :
  (Code.region id ops true).wp P Q base W0:=by(
have wpo:∀ i o a w (K:Act→World→Prop),ops[i]? = some o→o.wp P a w K Q→wpOp P ops Q i K a w:=fun i o a w K ho h=>by
 unfold wpOp
 simp only[ho,Region.wanted,hg i o ho,if_true]
 exact .inl h
refine zen hm hlow (fun d a w=>if d m=true then (Fin a w∧∀ i,i<m→d i=true) else zjk base H C T m d a w) ?_ ?_ ?_
·simp only[Bool.false_eq_true,if_false]
 exact⟨h0,rfl,rfl,fun _ _=>rfl,fun _ _ h=>by simp at h⟩
·intro d a w hd h
 rw[if_pos (hd m (by omega))] at h
 exact hend a w h.1
·(
intro d i o a w ho hdi hdep h
refine wpo i o a w _ ho ?_
have hi:i<m+1:=by rw[← hsz];exact (Array.getElem?_eq_some_iff.1 ho).1
by_cases e:i=m
·(
subst e
rw[if_neg (by rw[hdi];simp)] at h
have hd:∀ j,j<i→d j=true:=fun j hj=>by
 obtain⟨o',ho',ed,he,hb,rfl⟩:=hall j hj
 rw[ho] at ho'
 obtain rfl:=Option.some.inj ho'
 exact hdep ed he hb
refine hlast d o a w _ ho hd h (fun a' w' hf=>?_)
rw[if_pos (oq d i)]
exact⟨hf,fun j hj=>by rw[iw d (by omega)];exact hd j hj⟩)
·(
have him:i<m:=by omega
by_cases hdm:d m=true
·exfalso
 rw[if_pos hdm] at h
 rw[h.2 i him] at hdi
 simp at hdi
·rw[if_neg hdm] at h
 refine hstep d i o a w _ him ho hdi h.mem (fun t ht=>h.eval t ht) (fun ed he hb=>⟨hdep ed he hb,h.has _ (by have:=hlow i o ho ed he hb;omega) (hdep ed he hb)⟩) (fun v w' hH hC hv=>?_)
 rw[if_neg (by rw[iw d (Ne.symm e)];exact hdm)]
 exact h.next hinj hT i him v w' hH hC hv)))
end Go.Proofs.YtpmjeclpkahkmaaGreatDoor
namespace Go.Proofs
open Go.Proofs.Tryz
open Go.Shelf
def Tryz.lays99_ren : Go.Shelf.Ren := ⟨fun | 99 => 328 | 206 => 337 | n => n, fun | 3 => 3 | 4 => 4 | 9 => 9 | n => n, fun | n => n⟩
theorem Tryz.lays99 : Go.Proofs.Lays.n99 Tryz.prog Tryz.lays99_ren := {
  mixed := by kernel_rfl
  f99 := Tryz.func328.trans (congrArg some (by kernel_rfl))
  f206 := Tryz.func337.trans (congrArg some (by kernel_rfl))
  t3 := Tryz.underlying3
  a3 := Tryz.isAgg3
  z3 := Tryz.sizeOf3
  v3 := Tryz.zeroValue3
  t4 := Tryz.underlying4
  a4 := Tryz.isAgg4
  z4 := Tryz.sizeOf4
  v4 := Tryz.zeroValue4
  t9 := Tryz.underlying9
  a9 := Tryz.isAgg9
  z9 := Tryz.sizeOf9
  v9 := Tryz.zeroValue9 }
theorem Tryz.strings_HasPrefix (s p:ByteArray) (w:World) :
  Calls prog 328 #[.string s,.string p] w fun e w'=>e=.returned (.bool (Lib.hasPrefix s.data.toList p.data.toList))∧w'=w:=Any.strings_HasPrefix Tryz.lays99 s p w
end Go.Proofs
