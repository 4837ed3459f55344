/- The built-in copy between rows of words, -/
import Derived.Laws.CopyOwn
import Derived.Shelf.Bits.Mul64
import Derived.Shelf.Small.Bits
import Derived.Test.YtollloafckcogaaGreatDoorProg
import Derived.Laws.Bits64b
import Derived.Test.YtollloafckcogaaGreatDoorKYBase
namespace Go.Proofs.YtollloafckcogaaGreatDoor
open Go.RowKit
theorem getD_map_u64 (xs:List Nat) (j:Nat) (v:Value) (h:(xs.map fun (x:Nat)=>Value.int .u64 (x:Int))[j]? = some v):j<xs.length∧v=.int .u64 (xs[j]?.getD 0:Nat):=by
 simp only [List.getElem?_map,Option.map_eq_some_iff] at h
 obtain ⟨x,hx,rfl⟩:=h
 exact ⟨(List.getElem?_eq_some_iff.1 hx).1,by rw [hx];rfl⟩
theorem addr_add (b off j:Nat):(⟨b,off,none⟩:Addr).add j=⟨b,off+j,none⟩:=by by_cases h:j=0 <;> simp [Addr.add,h]
theorem but_setCells (w:World) (g:Nat):∀ (vs:List Value) (o:Nat),But [g] w (w.setCells g o vs)
 | [],_=>But.refl _ _
 | v::vs,o=>by
  rw [World.setCells]
  exact ((But.refl [g] w).setCell (p:=⟨g,o,none⟩) (by simp) v).trans (but_setCells _ g vs (o+1)) (fun _ h=>.inl h)
theorem ints_setCells (g:Nat):∀ (xs:List Nat) (o:Nat) (w:World),Ints .u64 w g→Ints .u64 (w.setCells g o (xs.map fun (x:Nat)=>Value.int .u64 (x:Int))) g
 | [],_,_,h=>h
 | x::xs,o,w,h=>by
  rw [List.map_cons,World.setCells]
  exact ints_setCells g xs (o+1) _ (h.set o x)
theorem seg_copy {w:World} {g o:Nat} {rs:List Nat} (h:Seg w g o rs) (xs:List Nat) (hl:xs.length≤rs.length) :
  Seg (w.setCells g o (xs.map fun (x:Nat)=>Value.int .u64 (x:Int))) g o (xs++rs.drop xs.length)∧Part g o xs.length w (w.setCells g o (xs.map fun (x:Nat)=>Value.int .u64 (x:Int))):=by
 refine ⟨⟨fun i hi=>⟨?_,?_⟩,fun h0=>ints_setCells _ _ _ _ (h.ints (by simp only [List.length_append,List.length_drop] at h0;omega))⟩,but_setCells _ _ _ _,fun i hi=>?_,fun i=>World.frozen?_setCells _ _ _ _ _⟩
 ·simp only [List.length_append,List.length_drop] at hi
  rcases Nat.lt_or_ge i xs.length with h1 | h1
  ·have:=World.cell?_setCells_in g (xs.map fun (x:Nat)=>Value.int .u64 (x:Int)) o w (fun j hj=>by rw [(h j (by simp at hj;omega)).1];rfl) i (by simpa using h1)
   rw [this,List.getElem?_append_left h1]
   simp [List.getElem?_eq_getElem h1]
  ·rw [World.cell?_setCells_out g _ o w _ (fun _ _=>.inr (by simp;omega)),(h i (by omega)).1,List.getElem?_append_right h1,List.getElem?_drop,show xs.length+(i-xs.length)=i from by omega]
 ·simp only [List.length_append,List.length_drop] at hi
  rw [World.frozen?_setCells];exact (h i (by omega)).2
 ·exact World.cell?_setCells_out g _ o w _ (fun _ _=>by simp;omega)
theorem run_copy_seg {P:Program} (w:World) (dT sT elem:TypeId) (hu:P.underlying dT=some (.slice elem)) (hsz:(P.info? elem).map (·.size)=some 1)
  (g off dLen dCap:Nat) (vs:Value) (rs xs:List Nat) (hg:Seg w g off rs) (hr:dLen=rs.length) (hx:Sl .u64 w vs xs) (hl:xs.length≤rs.length) :
  ∃ w',(∀ ty,(Builtin.copy_ #[dT,sT] ty #[.slice (some ⟨g,off,none⟩) dLen dCap,vs]).run P w=.ok (goInt xs.length) w')∧Hid (Seg w' g off (xs++rs.drop xs.length)∧Part g off xs.length w w'):=by
 obtain ⟨ad,cap,rfl,-,hc,-⟩:=hx
 subst hr
 rcases Nat.eq_zero_or_pos xs.length with h0 | h0
 ·have e:xs=[]:=List.length_eq_zero_iff.1 h0
  subst e
  exact ⟨w,fun ty=>run_copy_none w dT sT ty elem _ _ _ _ _ _ hu hsz (by simp),by simpa using hg,Part.refl _ _ _ _⟩
 ·obtain ⟨b,off',rfl,-⟩:=hc 0 h0
  refine ⟨_,fun ty=>?_,seg_copy hg xs hl⟩
  have hrun:=run_copy_cells (P:=P) w dT sT ty elem g off rs.length dCap ⟨b,off',none⟩ xs.length cap (xs.map fun (x:Nat)=>Value.int .u64 (x:Int)) hu hsz (by rw [List.length_map];exact (Nat.min_eq_left hl).symm)
   (fun j v hj=>by
    obtain ⟨h1,rfl⟩:=getD_map_u64 xs j v hj
    obtain ⟨b2,off2,e,h2⟩:=hc j h1
    simp only [Option.some.injEq,Addr.mk.injEq] at e
    obtain ⟨rfl,rfl,-⟩:=e
    rw [addr_add];exact h2)
   (fun j hj=>by rw [(hg j (by simp at hj;omega)).1];rfl) (fun j hj=>(hg j (by simp at hj;omega)).2) (fun v hv=>by
    simp only [List.mem_map] at hv
    obtain ⟨x,-,rfl⟩:=hv
    rfl)
  rw [List.length_map] at hrun
  exact hrun
end Go.Proofs.YtollloafckcogaaGreatDoor

namespace Go.Proofs
open Go.Shelf
def Tryz.lays264_ren : Go.Shelf.Ren := ⟨fun | 264 => 116 | n => n, fun | 46 => 200 | 53 => 24 | n => n, fun | n => n⟩
theorem Tryz.lays264 : Go.Proofs.Lays.n264 Tryz.prog Tryz.lays264_ren := {
  mixed := by kernel_rfl
  f264 := Tryz.func116.trans (congrArg some (by kernel_rfl))
  t46 := Tryz.underlying200
  a46 := Tryz.isAgg200
  z46 := Tryz.sizeOf200
  v46 := Tryz.zeroValue200
  t53 := Tryz.underlying24
  a53 := Tryz.isAgg24
  z53 := Tryz.sizeOf24
  v53 := Tryz.zeroValue24 }
def Tryz.lays134_ren : Go.Shelf.Ren := ⟨fun | 129 => 182 | 134 => 161 | n => n, fun | 3 => 3 | 4 => 4 | 5 => 5 | 9 => 9 | 46 => 200 | 53 => 24 | n => n, fun | n => n⟩
theorem Tryz.lays134 : Go.Proofs.Lays.n134 Tryz.prog Tryz.lays134_ren := {
  mixed := by kernel_rfl
  f129 := Tryz.func182.trans (congrArg some (by kernel_rfl))
  f134 := Tryz.func161.trans (congrArg some (by kernel_rfl))
  t3 := Tryz.underlying3
  a3 := Tryz.isAgg3
  z3 := Tryz.sizeOf3
  v3 := Tryz.zeroValue3
  t4 := Tryz.underlying4
  a4 := Tryz.isAgg4
  z4 := Tryz.sizeOf4
  v4 := Tryz.zeroValue4
  t5 := Tryz.underlying5
  a5 := Tryz.isAgg5
  z5 := Tryz.sizeOf5
  v5 := Tryz.zeroValue5
  t9 := Tryz.underlying9
  a9 := Tryz.isAgg9
  z9 := Tryz.sizeOf9
  v9 := Tryz.zeroValue9
  t46 := Tryz.underlying200
  a46 := Tryz.isAgg200
  z46 := Tryz.sizeOf200
  v46 := Tryz.zeroValue200
  t53 := Tryz.underlying24
  a53 := Tryz.isAgg24
  z53 := Tryz.sizeOf24
  v53 := Tryz.zeroValue24 }
theorem Tryz.bits_Mul64 (x y:Nat) (hx:x < 18446744073709551616) (hy:y < 18446744073709551616) (w:World) :
  Calls Tryz.prog 116 #[.int .u64 x,.int .u64 y] w fun e w'=>e=.returned (.tuple #[.int .u64 ((x*y / 18446744073709551616:Nat):Int),.int .u64 ((x*y % 18446744073709551616:Nat):Int)])∧w'=w:=Any.bits_Mul64 Tryz.lays264 x y hx hy w
theorem Tryz.bits_LeadingZeros64 (x:Int) (w:World) (h0:0≤x) (h1:x≤18446744073709551615) :
  Calls Tryz.prog 161 #[.int .u64 x] w fun e w'=>e=.returned (.int .i64 (64-(Lib.bitLen x.toNat:Int)))∧w'=w:=Any.bits_LeadingZeros64 Tryz.lays134 x w h0 h1
end Go.Proofs

namespace Go.Proofs.YtollloafckcogaaGreatDoor
theorem dv_init (u Y n1 n0 u1 q r:Nat) (hY:Y=n1*4294967296+n0) (e:u=q*n1+r) (hr:r<n1) (hu1:u1<4294967296):(u*4294967296+u1)/Y≤q:=by
 have h0:0<Y:=by omega
 have:u*4294967296+u1<(q+1)*(n1*4294967296):=by
  have h1:u+1≤(q+1)*n1:=by rw [e,Nat.add_mul];omega
  have h2:=Nat.mul_le_mul_right 4294967296 h1
  grind
 apply Nat.le_of_lt_succ
 rw [Nat.div_lt_iff_lt_mul h0]
 subst hY
 grind
theorem dv_dec (u Y n1 n0 u1 q r:Nat) (hY:Y=n1*4294967296+n0) (e:u=q*n1+r) (hu:u<Y) (hu1:u1<4294967296) (hc:4294967296≤q∨4294967296*r+u1<q*n0):(u*4294967296+u1)/Y<q:=by
 have h0:0<Y:=by omega
 rw [Nat.div_lt_iff_lt_mul h0]
 rcases hc with hc | hc
 ·have h1:4294967296*Y≤q*Y:=Nat.mul_le_mul_right _ hc
  omega
 ·subst hY e
  grind
theorem dv_fin (u Y n1 n0 u1 q r:Nat) (hY:Y=n1*4294967296+n0) (e:u=q*n1+r) (hu:u<Y) (hQ:(u*4294967296+u1)/Y≤q) (hc:q*n0≤4294967296*r+u1):q=(u*4294967296+u1)/Y:=by
 have h0:0<Y:=by omega
 refine Nat.le_antisymm ?_ hQ
 rw [Nat.le_div_iff_mul_le h0]
 subst hY e
 grind
theorem dv_brk (u Y n1 n0 u1 q r:Nat) (hY:Y=n1*4294967296+n0) (hn0:n0<4294967296) (e:u=q*n1+r) (hu:u<Y) (hr:4294967296≤r):q<4294967296∧q*n0≤4294967296*r+u1:=by
 have hq:q<4294967296:=by
  rcases Nat.lt_or_ge q 4294967296 with h | h
  ·exact h
  ·have:=Nat.mul_le_mul_right n1 h
   omega
 refine ⟨hq,?_⟩
 have h1:q*n0≤4294967296*4294967296:=Nat.mul_le_mul (by omega) (by omega)
 omega
theorem dv_q_lt (u Y u1:Nat) (hu:u<Y) (hu1:u1<4294967296):(u*4294967296+u1)/Y<4294967296:=by
 rw [Nat.div_lt_iff_lt_mul (by omega)]
 omega
theorem dv_all (N y P Y u L u1 u0 q1 r1 q0 r0:Nat) (hP:0<P) (hY:Y=y*P) (hN:N*P=u*18446744073709551616+L) (hL:L=u1*4294967296+u0) (e1:u*4294967296+u1=q1*Y+r1) (e0:r1*4294967296+u0=q0*Y+r0) (h0:r0<Y):q1*4294967296+q0=N/y∧r0/P=N%y:=by
 have h:N*P=(q1*4294967296+q0)*(y*P)+r0:=by
  subst hL hY
  have:(u*4294967296+u1)*4294967296=(q1*(y*P)+r1)*4294967296:=by rw [e1]
  grind
 subst hY
 have hd:r0=(N-(q1*4294967296+q0)*y)*P:=by
  rw [Nat.sub_mul,h,Nat.mul_assoc];omega
 have hle:(q1*4294967296+q0)*y≤N:=by
  have:(q1*4294967296+q0)*y*P≤N*P:=by rw [h,Nat.mul_assoc];omega
  exact Nat.le_of_mul_le_mul_right this hP
 have hlt:N-(q1*4294967296+q0)*y<y:=by
  rw [hd] at h0
  exact Nat.lt_of_mul_lt_mul_right h0
 have hN2:N=(q1*4294967296+q0)*y+(N-(q1*4294967296+q0)*y):=by omega
 constructor
 ·refine (Nat.div_eq_of_lt_le ?_ ?_).symm
  ·exact hle
  ·rw [Nat.add_mul];omega
 ·rw [hd,Nat.mul_div_cancel _ hP]
  have:=Nat.mod_eq_of_lt hlt
  conv=>rhs;rw [hN2]
  rw [Nat.mul_comm _ y,Nat.mul_add_mod,Nat.mul_comm y,this]
theorem sh_or (hi lo s:Nat) (hs:s≤63) (hlo:lo<18446744073709551616):(hi*2^s) ||| (lo/2^(64-s))=hi*2^s+lo/2^(64-s)∧lo/2^(64-s)<2^s:=by
 have hp:18446744073709551616=2^s*2^(64-s):=by rw [← Nat.pow_add,show s+(64-s)=64 from by omega]
 have hb:lo/2^(64-s)<2^s:=by
  rw [Nat.div_lt_iff_lt_mul (Nat.pow_pos (by omega)),← hp];exact hlo
 refine ⟨?_,hb⟩
 rw [Nat.mul_comm hi,Nat.two_pow_add_eq_or_of_lt hb]
theorem sh_sum (hi lo s:Nat) (hs:s≤63):(hi*18446744073709551616+lo)*2^s=(hi*2^s+lo/2^(64-s))*18446744073709551616+lo*2^s%18446744073709551616:=by
 have hp:18446744073709551616=2^(64-s)*2^s:=by rw [← Nat.pow_add,show (64-s)+s=64 from by omega]
 have e:lo*2^s/18446744073709551616=lo/2^(64-s):=by
  rw [hp,Nat.mul_div_mul_right _ _ (Nat.pow_pos (by omega))]
 have:=Nat.div_add_mod (lo*2^s) 18446744073709551616
 rw [e] at this
 grind
theorem gs_init (x2 x1 x0 f s P Rl Yl R Y q r:Nat) (hR:R=Rl+P*(x0 + 18446744073709551616*(x1 + 18446744073709551616*x2))) (hY:Y=Yl+P*(s + 18446744073709551616*f)) (hl:Rl<P) (hx0:x0 < 18446744073709551616) (e:x2 * 18446744073709551616+x1=q*f+r) (hr:r<f):R<(q+1)*Y:=by
 have h1:x2 * 18446744073709551616+x1+1≤(q+1)*f:=by rw [e,Nat.add_mul];omega
 have h2:(x2 * 18446744073709551616+x1+1)*(18446744073709551616*P)≤(q+1)*f*(18446744073709551616*P):=Nat.mul_le_mul_right _ h1
 have h3:R<(x2 * 18446744073709551616+x1+1)*(18446744073709551616*P):=by
  have h4:(x0+1)*P≤18446744073709551616*P:=Nat.mul_le_mul_right _ hx0
  subst hR
  grind
 have h5:(q+1)*f*(18446744073709551616*P)≤(q+1)*Y:=by
  subst hY
  grind
 omega
theorem gs_dec (x2 x1 x0 f s P Rl Yl R Y q r:Nat) (hR:R=Rl+P*(x0 + 18446744073709551616*(x1 + 18446744073709551616*x2))) (hY:Y=Yl+P*(s + 18446744073709551616*f)) (hl:Rl<P) (e:x2 * 18446744073709551616+x1=q*f+r) (hc:r * 18446744073709551616+x0<q*s):R<q*Y:=by
 have h1:x2 * 18446744073709551616 * 18446744073709551616+x1 * 18446744073709551616+x0+1≤q*(s + 18446744073709551616*f):=by
  have:(x2 * 18446744073709551616+x1) * 18446744073709551616=(q*f+r) * 18446744073709551616:=by rw [e]
  grind
 have h2:(x2 * 18446744073709551616 * 18446744073709551616+x1 * 18446744073709551616+x0+1)*P≤q*(s + 18446744073709551616*f)*P:=Nat.mul_le_mul_right _ h1
 subst hR hY
 grind
end Go.Proofs.YtollloafckcogaaGreatDoor
