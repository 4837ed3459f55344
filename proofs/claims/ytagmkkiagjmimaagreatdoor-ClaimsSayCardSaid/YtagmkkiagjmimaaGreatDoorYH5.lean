/- The length of a number in bits, and numb -/
import Derived.Laws.BitsAllLaws
import Derived.Laws.CopyOwn
import Derived.Deep.CutBlock
import Derived.Deep.DeepCutAuto
import Derived.Deep.RegionWith
import Derived.Deep.LoopGhost
import Derived.Deep.RegionHeld
import Derived.Test.YtagmkkiagjmimaaGreatDoorYG0
import Derived.Test.YtagmkkiagjmimaaGreatDoorYH1
import Derived.Test.YtagmkkiagjmimaaGreatDoorYHb
namespace Go.Proofs.YtagmkkiagjmimaaGreatDoor
set_option linter.unusedVariables false
open Go.Proofs.Tryz
open Go.RowKit
set_option maxHeartbeats 32000000
set_option maxRecDepth 100000
def zar (X:Nat):Nat:=(wd 4294967296 X)[(wd 4294967296 X).length-1]?.getD 0
theorem zls (X:Nat) (h:0<X):0<zar X∧zar X<4294967296∧0<(wd 4294967296 X).length:=by(
 have hl:0<(wd 4294967296 X).length:=by rw[Nat.pos_iff_ne_zero];intro e;rw[zq (by omega)] at e;omega
 refine⟨?_,bt (zt (by omega) X) (by omega) _,hl⟩
 rcases Nat.eq_zero_or_pos (zar X) with h0 | h0
 ·(
 exfalso
 obtain⟨m,hm⟩:∃ m,(wd 4294967296 X).length=m+1:=⟨(wd 4294967296 X).length-1,by omega⟩
 have e:=tu (wd 4294967296 X) m (by omega)
 have hz:vl 4294967296 ((wd 4294967296 X).drop m)=0:=ug _ _ (fun i hi=>by
  rcases Nat.lt_or_ge i (m+1) with h1 | h1
  ·unfold zar at h0
   rw[hm,Nat.add_sub_cancel] at h0
   rw[show i=m from by omega];exact h0
  ·rw[List.getElem?_eq_none (by omega)];rfl)
 rw[hz,Nat.mul_zero,Nat.add_zero,qy (by omega)] at e
 have hb:=jy (wd 4294967296 X) m (by omega) (zt (by omega) X)
 rw[← e] at hb
 have:=aj (B:=4294967296) (by omega) X m hb
 omega)
 ·exact h0)
theorem zvy (v:Value) (X:Nat) (w:World) (hv:Sl .u32 w v (wd 4294967296 X)) (hX:0<X) (hl:(wd 4294967296 X).length<16777216) :
   Calls prog 230 #[v] w fun e w'=>∃ n:Nat,e=.returned (.int .i64 ((((wd 4294967296 X).length:Int)-1)*32+(n:Int)))∧w'=w∧1≤n∧n≤32∧2^(n-1)≤zar X∧zar X<2^n:=by(
 obtain⟨t0,t1,t2⟩:=zls X hX
 rcases hv.open with ⟨e,-⟩|⟨-,b,off,c,rfl,hc,hbl,hcell⟩
 ·rw[e] at t2;simp at t2
 have cx:=hcell ((wd 4294967296 X).length-1) (by omega)
 rw[show (wd 4294967296 X)[(wd 4294967296 X).length-1]?.getD 0=zar X from rfl] at cx
 clear hcell hv
 generalize zar X=t at *
 generalize (wd 4294967296 X).length=l at *
 have n0:((l:Int)==0)=false:=beq_eq_false_iff_ne.2 (by omega)
 obtain⟨m,rfl⟩:∃ m,l=m+1:=⟨l-1,by omega⟩
 rw[Nat.add_sub_cancel] at cx
 have HT:=af (And.intro t0 t1)
 clear t0
 go_enter func230,ntmps230
 go_wp2
 go_loop [3,4] (fun n x=>∃ k tN:Nat,n=.int .i64 (k:Int)∧x=.int .u32 (tN:Int)∧tN<4294967296∧k≤32∧Hid (tN=t/2^k∧(k=0∨2^(k-1)≤t))) (fun _ x=>(intOf x).toNat)
 case atStart=>exact⟨0,t,rfl,rfl,t1,by omega,by simp,.inl rfl⟩
 case round =>(
 obtain⟨k,tN,rfl,rfl,htN,hk,HI⟩:=hrel
 by_cases h0:tN=0
 ·(
 subst h0
 obtain⟨hi1,hi2⟩:=ae HI
 have hlt:t<2^k:=by
  rcases Nat.lt_or_ge t (2^k) with h | h
  ·exact h
  ·have:=Nat.div_pos h (Nat.pow_pos (by omega));omega
 have hk1:1≤k:=by
  rcases Nat.eq_zero_or_pos k with h | h
  ·subst h;have:=(ae HT).1;simp at hlt;omega
  ·exact h
 have FIN:=af (And.intro hk1 (And.intro hk (And.intro (hi2.resolve_left (by omega)) hlt)))
 clear hi1 hi2 hlt hk1 HI
 go_wp2
 go_ret
 exact⟨k,by simp,rfl,(ae FIN).1,(ae FIN).2.1,(ae FIN).2.2.1,(ae FIN).2.2.2⟩)
 ·(
 have hne:((tN:Int) != 0)=true:=by simp;omega
 obtain⟨hi1,hi2⟩:=ae HI
 have hge:2^k≤t:=by
  rcases Nat.lt_or_ge t (2^k) with h | h
  ·rw[Nat.div_eq_of_lt h] at hi1;omega
  ·exact h
 have hk31:k+1≤32:=by
  rcases Nat.lt_or_ge k 32 with h | h
  ·omega
  ·have:2^32≤2^k:=Nat.pow_le_pow_right (by omega) h
   have:=(ae HT).2
   omega
 obtain⟨q,hq⟩:∃ q,q=tN/2:=⟨_,rfl⟩
 have e1:(tN:Int)/2=(q:Int):=by omega
 have NX:Hid (q=t/2^(k+1)∧(k+1=0∨2^(k+1-1)≤t)):=by
  refine⟨?_,.inr (by rw[Nat.add_sub_cancel];exact hge)⟩
  rw[hq,hi1,Nat.div_div_eq_div_mul,Nat.pow_succ]
 have hqB:q<4294967296:=by omega
 have hqlt:q<tN:=by omega
 clear hi1 hi2 hge HI hq
 go_wp2
 refine⟨⟨k+1,q,by go_num,rfl,hqB,hk31,NX⟩,?_⟩
 simp[intOf];omega)))
/-! ### to the left -/
structure zng (xs rs:List Nat) (s k:Nat):Prop where
 len:rs.length=xs.length+1
 mem:∀ x ∈ rs,x<4294967296
 val:vl 4294967296 rs=vl 4294967296 (xs.take k)*2^s
 top:rs[k]?.getD 0<2^s
 zero:∀ j,k<j→rs[j]?.getD 0=0
theorem zng.start (xs:List Nat) (s:Nat):zng xs (List.replicate (xs.length+1) 0) s 0 :=
 ⟨by simp,fun x hx=>by rw[List.mem_replicate] at hx;omega,by simp[jc,vl],by rw[List.getElem?_replicate];split <;> exact Nat.pow_pos (by omega),fun j _=>by rw[List.getElem?_replicate];split <;> rfl⟩
theorem qmj (x c s:Nat) (hx:x<4294967296) (hs:s≤31) (hc:c<2^s):c ||| (x*2^s%4294967296)=c+x*2^s%4294967296∧c+x*2^s%4294967296<4294967296∧x*2^s/4294967296<2^s∧x*2^s<18446744073709551616:=by(
 have hp:(4294967296:Nat)=2^(32-s)*2^s:=by rw[← Nat.pow_add,show (32-s)+s=32 from by omega]
 have e0:x*2^s%4294967296=x%2^(32-s)*2^s:=by rw[hp,Nat.mul_mod_mul_right]
 have e1:x*2^s/4294967296=x/2^(32-s):=by rw[hp,Nat.mul_div_mul_right _ _ (Nat.pow_pos (by omega))]
 have h1:x%2^(32-s)+1≤2^(32-s):=Nat.mod_lt _ (Nat.pow_pos (by omega))
 have h2:=Nat.mul_le_mul_right (2^s) h1
 rw[← hp,Nat.add_mul,Nat.one_mul] at h2
 have h3:2^s≤2^31:=Nat.pow_le_pow_right (by omega) hs
 refine⟨?_,?_,?_,?_⟩
 ·rw[e0,Nat.or_comm,Nat.mul_comm,← Nat.two_pow_add_eq_or_of_lt hc,Nat.add_comm]
 ·rw[e0]
  generalize x%2^(32-s)*2^s=m at *
  generalize 2^s=P at *
  omega
 ·rw[e1,Nat.div_lt_iff_lt_mul (Nat.pow_pos (by omega)),Nat.mul_comm,← hp];exact hx
 ·have:x*2^s≤4294967295*2^31:=Nat.mul_le_mul (by omega) h3
  omega)
theorem zng.step {xs rs:List Nat} {s k:Nat} (h:zng xs rs s k) (hk:k<xs.length) (hx:xs[k]?.getD 0<4294967296) (hs:s≤31):zng xs ((rs.set k (rs[k]?.getD 0+xs[k]?.getD 0*2^s%4294967296)).set (k+1) (xs[k]?.getD 0*2^s/4294967296)) s (k+1):=by(
 have hl:=h.len
 obtain⟨-,f2,f3,-⟩:=qmj (xs[k]?.getD 0) (rs[k]?.getD 0) s hx hs h.top
 have f4:xs[k]?.getD 0*2^s/4294967296<4294967296:=Nat.lt_of_lt_of_le f3 (by have:2^s≤2^31:=Nat.pow_le_pow_right (by omega) hs;omega)
 refine⟨by rw[List.length_set,List.length_set];exact hl,mem_set (mem_set h.mem _ _ f2) _ _ f4,?_,?_,fun j hj=>?_⟩
 ·(
 have h1:=ig 4294967296 rs k (rs[k]?.getD 0+xs[k]?.getD 0*2^s%4294967296) (by omega)
 have h2:=ig 4294967296 (rs.set k (rs[k]?.getD 0+xs[k]?.getD 0*2^s%4294967296)) (k+1) (xs[k]?.getD 0*2^s/4294967296) (by rw[List.length_set];omega)
 rw[List.getElem?_set_ne (by omega),h.zero (k+1) (by omega),Nat.zero_mul,Nat.add_zero] at h2
 have h3:=Nat.div_add_mod (xs[k]?.getD 0*2^s) 4294967296
 have h4:=h.val
 rw[h2,wu,Nat.pow_succ]
 generalize xs[k]?.getD 0*2^s/4294967296=hi at *
 generalize xs[k]?.getD 0*2^s%4294967296=lo at *
 generalize vl 4294967296 (rs.set k (rs[k]?.getD 0+lo))=A at *
 generalize rs[k]?.getD 0=c at *
 generalize xs[k]?.getD 0=x at *
 generalize vl 4294967296 rs=B at *
 generalize vl 4294967296 (xs.take k)=V at *
 generalize (4294967296:Nat)^k=P at *
 generalize 2^s=T at *
 have e3:(4294967296*hi+lo)*P=x*T*P:=by rw[h3]
 grind)
 ·rw[List.getElem?_set_self (by rw[List.length_set];omega)];exact f3
 ·rw[List.getElem?_set_ne (by omega),List.getElem?_set_ne (by omega)];exact h.zero j (by omega))
theorem zou (v:Value) (X s:Nat) (w:World) (hv:Sl .u32 w v (wd 4294967296 X)) (hs:s≤31) (hl:(wd 4294967296 X).length<1073741824) :
   Calls prog 231 #[v,.int .u64 (s:Int)] w fun e w'=>∃ v',e=.returned v'∧Sl .u32 w' v' (wd 4294967296 (X*2^s))∧But [] w w'∧rz w.heap.size v':=by(
 have mm:=zt (B:=4294967296) (by omega) X
 have em:=qy (B:=4294967296) (by omega) X
 rcases hv.open with ⟨e,a,c,rfl⟩|⟨hp,b,off,c,rfl,hc,hbl,hcell⟩
 ·(
 have hX:X=0:=(wh (by omega) X).1 e
 subst hX
 rw[Nat.zero_mul,zo]
 clear mm em e hv
 go_enter func231,ntmps231
 go_wp2
 go_ret
 exact⟨_,rfl,Sl.nil _ _,But.refl _ _,fun b off n c e=>by simp at e⟩)
 ·(
 generalize wd 4294967296 X=xs at *
 subst em
 have lz0:((xs.length:Int)==0)=false:=beq_eq_false_iff_ne.2 (by omega)
 have hmk:=fun wx=>zev wx xs.length hl
 have q1:(s:Int)/32=0:=by omega
 have q2:(s:Int)%32=(s:Int):=by omega
 have HC:=af hcell
 have MM:=af mm
 clear hcell mm hv
 go_enter func231,ntmps231
 go_wp2
 go_loopw [8] (fun i wr=>∃ (k:Nat) (rs:List Nat),k≤xs.length∧i=.int .i64 (k:Int)∧rs.length=xs.length+1∧Hid (zng xs rs s k∧But [] w wr∧xk .u32 wr w.heap.size rs)) (fun i _=>xs.length-(intOf i).toNat)
 case atStart=>exact⟨0,List.replicate (xs.length+1) 0,Nat.zero_le _,rfl,by simp,zng.start xs s,(But.refl _ _).alloc _,xk.made _ _ _ _⟩
 case round =>(
 obtain⟨k,rs,hk,rfl,hrl,HI⟩:=hrel
 rename World=>wr
 clear q1 q2
 by_cases hlt:k<xs.length
 ·(
 have cx:=(ae HI).2.1.ag (ae HC k hlt) (by simp)
 have hxB:xs[k]?.getD 0<4294967296:=bt (ae MM) (by omega) k
 obtain⟨cr,fr⟩:=(ae HI).2.2.row k (by omega)
 obtain⟨cr1,fr1⟩:=(ae HI).2.2.row (k+1) (by omega)
 rw[(ae HI).1.zero (k+1) (by omega)] at cr1
 have ST:=af ((ae HI).1.step hlt hxB hs)
 have hct:=(ae HI).1.top
 obtain⟨o1,o2,o3,o4⟩:=qmj (xs[k]?.getD 0) (rs[k]?.getD 0) s hxB hs hct
 have hcB:rs[k]?.getD 0<4294967296:=bt (ae HI).1.mem (by omega) k
 have hlB:xs[k]?.getD 0*2^s%4294967296<4294967296:=Nat.mod_lt _ (by omega)
 have HSET:=af (((ae HI).2.2.set k (by omega) (rs[k]?.getD 0+xs[k]?.getD 0*2^s%4294967296)).set (k+1) (by rw[List.length_set];omega) (xs[k]?.getD 0*2^s/4294967296))
 have HB:=af (ae HI).2.1
 have hor:bits .or .u32 ((rs[k]?.getD 0:Nat):Int) ((xs[k]?.getD 0*2^s%4294967296:Nat):Int)=((rs[k]?.getD 0+xs[k]?.getD 0*2^s%4294967296:Nat):Int):=by rw[u32_or_nat _ _ hcB hlB,o1]
 have hhB:xs[k]?.getD 0*2^s/4294967296<4294967296:=by omega
 have hor0:bits .or .u32 0 ((xs[k]?.getD 0*2^s/4294967296:Nat):Int)=((xs[k]?.getD 0*2^s/4294967296:Nat):Int):=by
  have:=u32_or_nat 0 (xs[k]?.getD 0*2^s/4294967296) (by omega) hhB
  rw[Nat.zero_or] at this
  exact this
 have hz:((xs[k]?.getD 0:Nat):Int)*2^s=((xs[k]?.getD 0*2^s:Nat):Int):=by simp
 have hz2:(((xs[k]?.getD 0*2^s:Nat):Int))%4294967296=((xs[k]?.getD 0*2^s%4294967296:Nat):Int):=by omega
 have hz3:(((xs[k]?.getD 0*2^s:Nat):Int))/4294967296=((xs[k]?.getD 0*2^s/4294967296:Nat):Int):=by omega
 have hw:IntKind.u64.wrap (((xs[k]?.getD 0:Nat):Int)*2^(s%32))=((xs[k]?.getD 0*2^s:Nat):Int):=by
  rw[Nat.mod_eq_of_lt (by omega:s<32),hz,IntKind.wrap_u64];omega
 have E1:bits .or .u32 ((rs[k]?.getD 0:Nat):Int) (IntKind.u64.wrap (((xs[k]?.getD 0:Nat):Int)*2^(s%32))%4294967296)=((rs[k]?.getD 0+xs[k]?.getD 0*2^s%4294967296:Nat):Int):=by rw[hw,hz2,hor]
 have E2:bits .or .u32 0 (IntKind.u64.wrap (((xs[k]?.getD 0:Nat):Int)*2^(s%32))/4294967296%4294967296)=((xs[k]?.getD 0*2^s/4294967296:Nat):Int):=by
  rw[hw,hz3,show ((xs[k]?.getD 0*2^s/4294967296:Nat):Int)%4294967296=((xs[k]?.getD 0*2^s/4294967296:Nat):Int) from by omega,hor0]
 clear HI o1 hct hw hz hz2 hz3 hor hor0 o2 o3 o4 hhB hlB
 generalize xs[k]?.getD 0*2^s/4294967296=hi at *
 generalize rs[k]?.getD 0+xs[k]?.getD 0*2^s%4294967296=cl at *
 generalize xs[k]?.getD 0=x at *
 generalize rs[k]?.getD 0=r at *
 have HE1:=af E1
 have HE2:=af E2
 clear E1 E2
 go_wp2
 rw[ae HE1,ae HE2]
 refine⟨⟨k+1,_,by omega,by go_num,?_,ae ST,((ae HB).setCell (p:=⟨w.heap.size,k,none⟩) (.inr (Nat.le_refl _)) _).setCell (p:=⟨w.heap.size,k+1,none⟩) (.inr (Nat.le_refl _)) _,ae HSET⟩,?_⟩
 ·rw[List.length_set,List.length_set];exact hrl
 ·simp[intOf];omega)
 ·(
 have hke:k=xs.length:=by omega
 subst hke
 have fv:=(ae HI).1.val
 rw[List.take_length] at fv
 have hsl:=(ae HI).2.2.sl (xs.length+1) (by omega)
 rw[hrl] at hsl
 have TR:=af (o7 _ rs _ hsl (ae HI).1.mem (by omega))
 rw[fv] at TR
 have HB:=af (ae HI).2.1
 clear fv hsl HI
 go_wp2_with fail
 refine (ae TR).mono ?_
 rintro e w1 ⟨v1,rfl,hv1,hw,hsb⟩
 obtain rfl:=hw.symm
 clear hw
 have FIN:=af (And.intro hv1 (dw hsb (Nat.le_refl w.heap.size)))
 clear hv1 hsb
 go_wp2
 go_ret
 exact⟨v1,rfl,(ae FIN).1,ae HB,(ae FIN).2⟩))))
/-! ### to the right -/
structure zci (X:Nat) (xs rs:List Nat) (s k:Nat):Prop where
 len:rs.length=xs.length
 mem:∀ x ∈ rs,x<4294967296
 dig:∀ j,j<k→rs[j]?.getD 0=X/2^s/4294967296^j%4294967296
theorem zci.start (X:Nat) (xs:List Nat) (s:Nat):zci X xs (List.replicate xs.length 0) s 0 :=
 ⟨by simp,fun x hx=>by rw[List.mem_replicate] at hx;omega,fun j h=>by omega⟩
theorem zci.word (xs:List Nat) (s k:Nat) (hk:k<xs.length) (hm:∀ x ∈ xs,x<4294967296) (hs:s≤31):vl 4294967296 xs/2^s/4294967296^k%4294967296=(xs[k]?.getD 0+4294967296*xs[k+1]?.getD 0)/2^s%4294967296:=by(
 have h1:=tu xs k (by omega)
 have h2:=jy xs k (by omega) hm
 have h3:vl 4294967296 xs/4294967296^k=vl 4294967296 (xs.drop k):=by
  rw[h1,Nat.add_mul_div_left _ _ (Nat.pow_pos (by omega)),Nat.div_eq_of_lt h2,Nat.zero_add]
 have h4:∃ R,vl 4294967296 (xs.drop k)=xs[k]?.getD 0+4294967296*xs[k+1]?.getD 0+4294967296*4294967296*R:=by
  rw[xw _ xs k hk]
  rcases Nat.lt_or_ge (k+1) xs.length with h | h
  ·exact⟨vl 4294967296 (xs.drop (k+1+1)),by rw[xw _ xs (k+1) h];grind⟩
  ·exact⟨0,by rw[List.drop_eq_nil_of_le h,List.getElem?_eq_none h];simp[vl]⟩
 obtain⟨R,hR⟩:=h4
 have hp:(4294967296:Nat)=2^s*2^(32-s):=by rw[← Nat.pow_add,show s+(32-s)=32 from by omega]
 rw[Nat.div_div_eq_div_mul,Nat.mul_comm (2^s),← Nat.div_div_eq_div_mul,h3,hR]
 generalize xs[k]?.getD 0+4294967296*xs[k+1]?.getD 0=V
 have e:V+4294967296*4294967296*R=V+2^s*(4294967296*(2^(32-s)*R)):=by
  congr 1
  calc 4294967296*4294967296*R=4294967296*(2^s*2^(32-s))*R:=by rw[← hp]
   _=2^s*(4294967296*(2^(32-s)*R)):=by grind
 rw[e,Nat.add_mul_div_left _ _ (Nat.pow_pos (by omega)),Nat.add_mul_mod_self_left])
theorem zci.step {xs rs:List Nat} {s k:Nat} (h:zci (vl 4294967296 xs) xs rs s k) (hk:k<xs.length) (hm:∀ x ∈ xs,x<4294967296) (hs:s≤31):zci (vl 4294967296 xs) xs (rs.set k ((xs[k]?.getD 0+4294967296*xs[k+1]?.getD 0)/2^s%4294967296)) s (k+1):=by(
 have hl:=h.len
 refine⟨by rw[List.length_set];exact hl,mem_set h.mem _ _ (Nat.mod_lt _ (by omega)),fun j hj=>?_⟩
 rcases Nat.lt_or_ge j k with h1 | h1
 ·rw[List.getElem?_set_ne (by omega)];exact h.dig j h1
 ·have:j=k:=by omega
  subst this
  rw[List.getElem?_set_self (by omega),← zci.word xs s j hk hm hs];rfl)
theorem zci.fin {xs rs:List Nat} {s:Nat} (h:zci (vl 4294967296 xs) xs rs s xs.length) (hm:∀ x ∈ xs,x<4294967296):vl 4294967296 rs=vl 4294967296 xs/2^s:=by
 rw[zyu 4294967296 (vl 4294967296 xs/2^s) xs.length rs h.len h.dig]
 exact Nat.mod_eq_of_lt (Nat.lt_of_le_of_lt (Nat.div_le_self _ _) (ni (by omega) xs hm))
theorem zvi (v:Value) (X s:Nat) (w:World) (hv:Sl .u32 w v (wd 4294967296 X)) (hs:s≤31) (hl:(wd 4294967296 X).length<1073741824) :
   Calls prog 232 #[v,.int .u64 (s:Int)] w fun e w'=>∃ v',e=.returned v'∧Sl .u32 w' v' (wd 4294967296 (X/2^s))∧But [] w w'∧rz w.heap.size v':=by(
 have mm:=zt (B:=4294967296) (by omega) X
 have em:=qy (B:=4294967296) (by omega) X
 have q1:(s:Int)/32=0:=by omega
 have q2:(s:Int)%32=(s:Int):=by omega
 rcases hv.open with ⟨e,a,c,rfl⟩|⟨hp,b,off,c,rfl,hc,hbl,hcell⟩
 ·(
 have hX:X=0:=(wh (by omega) X).1 e
 subst hX
 rw[Nat.zero_div,zo]
 clear mm em e hv
 go_enter func232,ntmps232
 go_wp2
 go_ret
 exact⟨_,rfl,Sl.nil _ _,But.refl _ _,fun b off n c e=>by simp at e⟩)
 ·(
 generalize wd 4294967296 X=xs at *
 subst em
 have hne:xs≠[]:=fun e=>by rw[e] at hp;simp at hp
 have hmk:=fun wx=>zdu wx xs.length (by omega)
 have HC:=af hcell
 have MM:=af mm
 clear hcell mm hv
 go_enter func232,ntmps232
 go_wp2
 go_loopw [8] (fun i wr=>∃ (k:Nat) (rs:List Nat),k≤xs.length∧i=.int .i64 (k:Int)∧rs.length=xs.length∧Hid (zci (vl 4294967296 xs) xs rs s k∧But [] w wr∧xk .u32 wr w.heap.size rs)) (fun i _=>xs.length-(intOf i).toNat)
 case atStart=>exact⟨0,List.replicate xs.length 0,Nat.zero_le _,rfl,by simp,zci.start _ xs s,(But.refl _ _).alloc _,xk.made _ _ _ _⟩
 case round =>(
 obtain⟨k,rs,hk,rfl,hrl,HI⟩:=hrel
 rename World=>wr
 clear q1 q2
 by_cases hlt:k<xs.length
 ·(
 have cx:=(ae HI).2.1.ag (ae HC k hlt) (by simp)
 have hxB:xs[k]?.getD 0<4294967296:=bt (ae MM) (by omega) k
 have hyB:xs[k+1]?.getD 0<4294967296:=bt (ae MM) (by omega) (k+1)
 obtain⟨cr,fr⟩:=(ae HI).2.2.row k (by omega)
 have ST:=af ((ae HI).1.step hlt (ae MM) hs)
 have HSET:=af ((ae HI).2.2.set k (by omega) ((xs[k]?.getD 0+4294967296*xs[k+1]?.getD 0)/2^s%4294967296))
 have HB:=af (ae HI).2.1
 by_cases hly:k+1<xs.length
 ·(
 have cy:=(ae HI).2.1.ag (ae HC (k+1) hly) (by simp)
 have OR:=qiw (xs[k]?.getD 0) (xs[k+1]?.getD 0) hxB hyB
 have E1:Hid (((xs[k]?.getD 0+xs[k+1]?.getD 0*4294967296:Nat):Int)/2^(s%32)%4294967296=(((xs[k]?.getD 0+4294967296*xs[k+1]?.getD 0)/2^s%4294967296:Nat):Int)):=by
  show _=_
  rw[Nat.mod_eq_of_lt (by omega:s<32),Nat.mul_comm (xs[k+1]?.getD 0)]
  simp
 clear HI
 generalize (xs[k]?.getD 0+4294967296*xs[k+1]?.getD 0)/2^s%4294967296=t at *
 generalize xs[k]?.getD 0+xs[k+1]?.getD 0*4294967296=z at *
 generalize xs[k]?.getD 0=x at *
 generalize xs[k+1]?.getD 0=y at *
 generalize rs[k]?.getD 0=r at *
 go_wp2
 rw[ae E1]
 refine⟨⟨k+1,_,by omega,by go_num,?_,ae ST,(ae HB).setCell (p:=⟨w.heap.size,k,none⟩) (.inr (Nat.le_refl _)) _,ae HSET⟩,?_⟩
 ·rw[List.length_set];exact hrl
 ·simp[intOf];omega)
 ·(
 have hy0:xs[k+1]?.getD 0=0:=by rw[List.getElem?_eq_none (by omega)];rfl
 have E1:Hid (((xs[k]?.getD 0:Nat):Int)/2^(s%32)%4294967296=(((xs[k]?.getD 0+4294967296*xs[k+1]?.getD 0)/2^s%4294967296:Nat):Int)):=by
  show _=_
  rw[Nat.mod_eq_of_lt (by omega:s<32),hy0,Nat.mul_zero,Nat.add_zero]
  simp
 clear HI hy0
 generalize (xs[k]?.getD 0+4294967296*xs[k+1]?.getD 0)/2^s%4294967296=t at *
 generalize xs[k]?.getD 0=x at *
 generalize rs[k]?.getD 0=r at *
 go_wp2
 rw[ae E1]
 refine⟨⟨k+1,_,by omega,by go_num,?_,ae ST,(ae HB).setCell (p:=⟨w.heap.size,k,none⟩) (.inr (Nat.le_refl _)) _,ae HSET⟩,?_⟩
 ·rw[List.length_set];exact hrl
 ·simp[intOf];omega))
 ·(
 have hke:k=xs.length:=by omega
 subst hke
 have fv:=(ae HI).1.fin (ae MM)
 have hsl:=(ae HI).2.2.sl xs.length (by omega)
 rw[hrl] at hsl
 have TR:=af (o7 _ rs _ hsl (ae HI).1.mem (by omega))
 rw[fv] at TR
 have HB:=af (ae HI).2.1
 clear fv hsl HI
 go_wp2_with fail
 refine (ae TR).mono ?_
 rintro e w1 ⟨v1,rfl,hv1,hw,hsb⟩
 obtain rfl:=hw.symm
 clear hw
 have FIN:=af (And.intro hv1 (dw hsb (Nat.le_refl w.heap.size)))
 clear hv1 hsb
 go_wp2
 go_ret
 exact⟨v1,rfl,(ae FIN).1,ae HB,(ae FIN).2⟩))))
theorem zqt (xs:List Nat) (j:Nat) (v:Value) (h:(xs.map fun (x:Nat)=>Value.int .u32 (x:Int))[j]? = some v):j<xs.length∧v=.int .u32 (xs[j]?.getD 0:Nat):=by(
 simp only[List.getElem?_map,Option.map_eq_some_iff] at h
 obtain⟨x,hx,rfl⟩:=h
 exact⟨(List.getElem?_eq_some_iff.1 hx).1,by rw[hx];rfl⟩)
theorem zem (g:Nat):∀ (xs:List Nat) (o:Nat) (w:World),Ints .u32 w g→Ints .u32 (w.setCells g o (xs.map fun (x:Nat)=>Value.int .u32 (x:Int))) g
 | [],_,_,h=>h
 | x::xs,o,w,h=>by
  rw[List.map_cons,World.setCells]
  exact zem g xs (o+1) _ (h.set o x)
theorem zvh {w:World} {g:Nat} {rs:List Nat} (h:xk .u32 w g rs) (xs:List Nat) (hl:xs.length≤rs.length) :
   xk .u32 (w.setCells g 0 (xs.map fun (x:Nat)=>Value.int .u32 (x:Int))) g (xs++rs.drop xs.length):=by(
 refine⟨fun i hi=>⟨?_,?_⟩,fun h0=>zem _ _ _ _ (h.ints (by simp only[List.length_append,List.length_drop] at h0;omega))⟩
 ·(
 simp only[List.length_append,List.length_drop] at hi
 rcases Nat.lt_or_ge i xs.length with h1 | h1
 ·have:=World.cell?_setCells_in g (xs.map fun (x:Nat)=>Value.int .u32 (x:Int)) 0 w (fun j hj=>by rw[Nat.zero_add,(h.row j (by simp at hj;omega)).1];rfl) i (by simpa using h1)
  rw[Nat.zero_add] at this
  rw[this,List.getElem?_append_left h1]
  simp[List.getElem?_eq_getElem h1]
 ·rw[World.cell?_setCells_out g _ 0 w _ (fun _ _=>.inr (by simp;omega)),(h.row i (by omega)).1,List.getElem?_append_right h1,List.getElem?_drop,show xs.length+(i-xs.length)=i from by omega])
 ·simp only[List.length_append,List.length_drop] at hi
  rw[World.frozen?_setCells];exact (h.row i (by omega)).2)
theorem zvg (w:World) (g dCap:Nat) (vs:Value) (rs xs:List Nat) (hg:xk .u32 w g rs) (hx:Sl .u32 w vs xs) (hl:xs.length≤rs.length) :
   ∃ w',(∀ ty,(Builtin.copy_ #[109,109] ty #[.slice (some ⟨g,0,none⟩) rs.length dCap,vs]).run prog w=.ok (goInt xs.length) w')∧Hid (xk .u32 w' g (xs++rs.drop xs.length)∧But [g] w w'):=by(
 have hu:=underlying109
 obtain⟨i0,hi0,-,hs0,-⟩:=zdm
 have hsz:(prog.info? 238).map (·.size)=some 1:=by rw[hi0];simp[hs0]
 obtain⟨ad,cap,rfl,-,hc,-⟩:=hx
 rcases Nat.eq_zero_or_pos xs.length with h0 | h0
 ·have e:xs=[]:=List.length_eq_zero_iff.1 h0
  subst e
  exact⟨w,fun ty=>run_copy_none w _ _ ty _ _ _ _ _ _ _ hu hsz (by simp),by simpa using hg,But.refl _ _⟩
 ·(
 obtain⟨b,off',rfl,-⟩:=hc 0 h0
 refine⟨_,fun ty=>?_,zvh hg xs hl,bl _ _ _ _⟩
 have hrun:=run_copy_cells (P:=prog) w 109 109 ty 238 g 0 rs.length dCap ⟨b,off',none⟩ xs.length cap (xs.map fun (x:Nat)=>Value.int .u32 (x:Int)) hu hsz (by rw[List.length_map];exact (Nat.min_eq_left hl).symm)
  (fun j v hj=>by
   obtain⟨h1,rfl⟩:=zqt xs j v hj
   obtain⟨b2,off2,e,h2⟩:=hc j h1
   simp only[Option.some.injEq,Addr.mk.injEq] at e
   obtain⟨rfl,rfl,-⟩:=e
   rw[addr_add];exact h2)
  (fun j hj=>by rw[Nat.zero_add,(hg.row j (by simp at hj;omega)).1];rfl) (fun j hj=>by rw[Nat.zero_add];exact (hg.row j (by simp at hj;omega)).2) (fun v hv=>by
   simp only[List.mem_map] at hv
   obtain⟨x,-,rfl⟩:=hv
   rfl)
 rw[List.length_map] at hrun
 exact hrun))
theorem zvq (B n:Nat) (hB:0<B) (hn1:1≤n) (hn:n≤32) (h1:2^(n-1)≤zar B) (h2:zar B<2^n) :
   (wd 4294967296 (B*2^(32-n))).length=(wd 4294967296 B).length∧2147483648≤zar (B*2^(32-n)):=by(
 obtain⟨t0,t1,t2⟩:=zls B hB
 obtain⟨m,hm⟩:∃ m,(wd 4294967296 B).length=m+1:=⟨(wd 4294967296 B).length-1,by omega⟩
 have e:=tu (wd 4294967296 B) m (by omega)
 rw[xw _ _ m (by omega),List.drop_eq_nil_of_le (by omega:(wd 4294967296 B).length≤m+1),qy (by omega)] at e
 simp only[vl,Nat.mul_zero,Nat.add_zero] at e
 have ht:(wd 4294967296 B)[m]?.getD 0=zar B:=by unfold zar;rw[hm,Nat.add_sub_cancel]
 have hlo:=jy (wd 4294967296 B) m (by omega) (zt (by omega) B)
 rw[ht] at e
 generalize vl 4294967296 ((wd 4294967296 B).take m)=L at *
 generalize hP:(4294967296:Nat)^m=P at *
 have h3:(zar B+1)*2^(32-n)≤4294967296:=by
  have:(zar B+1)*2^(32-n)≤2^n*2^(32-n):=Nat.mul_le_mul_right _ h2
  rw[← Nat.pow_add,show n+(32-n)=32 from by omega] at this
  exact this
 have h4:2147483648≤zar B*2^(32-n):=by
  have:2^(n-1)*2^(32-n)≤zar B*2^(32-n):=Nat.mul_le_mul_right _ h1
  rw[← Nat.pow_add,show n-1+(32-n)=31 from by omega] at this
  exact this
 generalize hT:2^(32-n)=T at *
 generalize zar B=t at *
 have hup:B*T<4294967296^(m+1):=by
  rw[e,Nat.pow_succ,hP]
  have h5:(L+P*t)*T<(P*(t+1))*T:=Nat.mul_lt_mul_of_pos_right (by rw[Nat.mul_succ];omega) (by rw[← hT];exact Nat.pow_pos (by omega))
  have h6:P*(t+1)*T=P*((t+1)*T):=Nat.mul_assoc _ _ _
  have h7:P*((t+1)*T)≤P*4294967296:=Nat.mul_le_mul_left _ h3
  omega
 have hge:P*2147483648≤B*T:=by
  rw[e]
  have h5:P*2147483648≤P*(t*T):=Nat.mul_le_mul_left _ h4
  have h6:(L+P*t)*T=L*T+P*(t*T):=by rw[Nat.add_mul,Nat.mul_assoc]
  omega
 have hlen:(wd 4294967296 (B*T)).length=m+1:=by
  refine Nat.le_antisymm (aj (by omega) _ _ hup) ?_
  rcases Nat.lt_or_ge (wd 4294967296 (B*T)).length (m+1) with h | h
  ·exfalso
   have:=ak (B:=4294967296) (by omega) (B*T) m (by omega)
   rw[hP] at this
   omega
  ·exact h
 refine⟨by rw[hlen,hm],?_⟩
 have e2:=tu (wd 4294967296 (B*T)) m (by omega)
 rw[xw _ _ m (by omega),List.drop_eq_nil_of_le (by omega:(wd 4294967296 (B*T)).length≤m+1),qy (by omega)] at e2
 simp only[vl,Nat.mul_zero,Nat.add_zero] at e2
 have ht2:(wd 4294967296 (B*T))[m]?.getD 0=zar (B*T):=by unfold zar;rw[hlen,Nat.add_sub_cancel]
 have hlo2:=jy (wd 4294967296 (B*T)) m (by omega) (zt (by omega) _)
 rw[ht2,hP] at e2
 rw[hP] at hlo2
 rcases Nat.lt_or_ge (zar (B*T)) 2147483648 with h | h
 ·exfalso
  have h8:P*(zar (B*T)+1)≤P*2147483648:=Nat.mul_le_mul_left _ h
  rw[Nat.mul_succ] at h8
  omega
 ·exact h)
theorem qhd (us vs:List Nat) (j n:Nat) (h2:2≤n) (hn:vs.length=n) (hj:j+n<us.length) (hu:∀ x ∈ us,x<4294967296) (hv:∀ x ∈ vs,x<4294967296) (hlt:vl 4294967296 us<vl 4294967296 vs*4294967296^j*4294967296) (hhi:2147483648≤vs[n-1]?.getD 0) :
   zii (vl 4294967296 us) (vl 4294967296 vs*4294967296^j) (4294967296^(j+(n-2))) (us[j+n]?.getD 0) (us[j+n-1]?.getD 0) (us[j+n-2]?.getD 0) (vs[n-1]?.getD 0) (vs[n-2]?.getD 0):=by(
 obtain⟨k,rfl⟩:∃ k,n=k+2:=⟨n-2,by omega⟩
 have:=qhc us vs j k hn hj hu hv hlt (by rw[show k+2-1=k+1 from by omega] at hhi;exact hhi)
 rw[show k+2-1=k+1 from by omega,show k+2-2=k from by omega]
 exact this)
structure zgg (W:World) (A V gu gq:Nat) (us qs:List Nat) (t:Nat) (wr:World):Prop where
 long:zuq A V us qs t
 but:But [gu,gq] W wr
 row:xk .u32 wr gu us
 qrow:xk .u32 wr gq qs
theorem Sl.qbh {w w':World} {b off n c:Nat} {xs:List Nat} {l:List Nat} (h:Sl .u32 w (.slice (some ⟨b,off,none⟩) n c) xs) (hb:But l w w') (hn:b ∉ l):∀ i,i<n→w'.cell? ⟨b,off+i,none⟩=some (.int .u32 (xs[i]?.getD 0:Nat)):=fun i hi=>by
 obtain⟨a,cap,e,-,hc,-⟩:=h
 simp only[Value.slice.injEq] at e
 obtain⟨rfl,rfl,-⟩:=e
 obtain⟨b2,o2,e2,h2⟩:=hc i hi
 simp only[Option.some.injEq,Addr.mk.injEq] at e2
 obtain⟨rfl,rfl,-⟩:=e2
 exact hb.ag h2 hn
theorem zvx (A V la n:Nat) (xs:List Nat) (hx:∀ x ∈ xs,x<4294967296) (hxv:vl 4294967296 xs=A) (_hxl:xs.length≤la+2) (hA:A<4294967296^(la+1)) (hV:2147483648*4294967296^(n-1)≤V) (hn:1≤n) (hnl:n≤la+1) :
   zuq A V (xs++(List.replicate (la+2) 0).drop xs.length) (List.replicate (la+2-n) 0) (la+2-n):=by(
 refine⟨fun x h=>?_,fun x h=>by rw[List.mem_replicate] at h;omega,?_,fun j _=>by rw[List.getElem?_replicate];split <;> rfl,?_⟩
 ·(
 rcases List.mem_append.1 h with h1 | h1
 ·exact hx x h1
 ·have:=List.mem_of_mem_drop h1
  rw[List.mem_replicate] at this
  omega)
 ·(
 rw[qd,List.drop_replicate,jc,Nat.mul_zero,Nat.add_zero,hxv]
 refine Nat.lt_of_lt_of_le hA ?_
 have h1:4294967296^(la+1)=4294967296^(n-1)*4294967296^(la+2-n):=by rw[← Nat.pow_add];congr 1;omega
 rw[h1]
 refine Nat.mul_le_mul_right _ (Nat.le_trans ?_ hV)
 omega)
 ·rw[qd,List.drop_replicate,jc,jc,Nat.mul_zero,Nat.mul_zero,Nat.add_zero,hxv])
theorem qfw (va vb:Value) (A0 B0:Nat) (w:World) (ha:Sl .u32 w va (wd 4294967296 A0)) (hb:Sl .u32 w vb (wd 4294967296 B0)) (hle:B0≤A0) (h3:3≤(wd 4294967296 A0).length) (h2:2≤(wd 4294967296 B0).length) (hl:(wd 4294967296 A0).length<8388608) :
   Calls prog 198 #[va,vb] w fun e w'=>∃ v1 v2,e=.returned (.tuple #[v1,v2])∧Sl .u32 w' v1 (wd 4294967296 (A0/B0))∧Sl .u32 w' v2 (wd 4294967296 (A0%B0))∧But [] w w':=by(
 have hB0:0<B0:=by
  rcases Nat.eq_zero_or_pos B0 with h | h
  ·subst h;rw[zo] at h2;simp at h2
  ·exact h
 have hlen:(wd 4294967296 B0).length≤(wd 4294967296 A0).length:=aj (by omega) B0 _ (Nat.lt_of_le_of_lt hle (ak (by omega) A0 _ (Nat.le_refl _)))
 have CM:=af (zee va vb A0 B0 w ha hb (by omega) (by omega))
 have hc0:=zbl hle
 generalize zy A0 B0=r at *
 have hr:decide (r<0)=false:=by simp;omega
 have LEN:=af (fun W (h:Sl .u32 W vb (wd 4294967296 B0))=>zvy vb B0 W h hB0 (by omega))
 have LB:=af (fun W s (hs:s≤31) (h:Sl .u32 W vb (wd 4294967296 B0))=>zou vb B0 s W h hs (by omega))
 have LA:=af (fun W s (hs:s≤31) (h:Sl .u32 W va (wd 4294967296 A0))=>zou va A0 s W h hs (by omega))
 have HA:=af ha
 have HB:=af hb
 have NF:=af (fun n h1 h2 h3 h4=>zvq B0 n hB0 h1 h2 h3 h4)
 obtain⟨aa,ca,rfl,-,-⟩:=ha
 obtain⟨ab,cb,rfl,-,-⟩:=hb
 have HL:=af (And.intro hle hB0)
 have HA1:Hid (A0<4294967296^(wd 4294967296 A0).length):=ak (by omega) A0 _ (Nat.le_refl _)
 clear hle hB0
 generalize hla:(wd 4294967296 A0).length=la at *
 generalize hn:(wd 4294967296 B0).length=n at *
 have LN:=af (And.intro hla hn)
 clear hla hn
 have n0:((n:Int)==0)=false:=beq_eq_false_iff_ne.2 (by omega)
 have n1:((n:Int)==1)=false:=beq_eq_false_iff_ne.2 (by omega)
 have hmk:=fun wx=>zsd wx la (by omega)
 go_enter func198,ntmps198
 go_wp2_with fail
 refine (ae CM).mono ?_
 rintro e w1 ⟨rfl,q,rfl⟩
 obtain⟨W1,hW1⟩:∃ W1,W1=w.drewN q:=⟨_,rfl⟩
 have B1:Hid (But [] w W1):=by rw[hW1];exact (But.refl _ _).drewN q
 rw[← hW1]
 clear hW1 CM
 go_wp2_with fail
 refine (ae LEN _ ((ae HB).ah (ae B1))).mono ?_
 rintro e w2 ⟨nb,rfl,hw,f1,f2,f3,f4⟩
 obtain rfl:=hw.symm
 clear hw
 obtain⟨g1,g2⟩:=ae NF nb f1 f2 f3 f4
 have GF:=af (And.intro g1 g2)
 clear f3 f4 g1 g2 NF LEN
 obtain⟨s,hs⟩:∃ s,s=32-nb:=⟨_,rfl⟩
 rw[← hs] at GF
 have hs31:s≤31:=by omega
 have SE:Hid (32-((((n:Int)-1)*32+(nb:Int))-1)%32-1=(s:Int)):=by show _=_;omega
 have HNB:=af (And.intro hs f1)
 clear hs
 go_wp2_with fail
 rw[ae SE]
 refine (ae LB _ s hs31 ((ae HB).ah (ae B1))).mono ?_
 rintro e w2 ⟨v1,rfl,hv1,hb2,-⟩
 have B2:Hid (But [] w w2):=(ae B1).trans' hb2
 obtain⟨V,hV⟩:∃ V,V=B0*2^s:=⟨_,rfl⟩
 obtain⟨A,hA⟩:∃ A,A=A0*2^s:=⟨_,rfl⟩
 rw[← hV] at hv1 GF
 have hvl:=(ae GF).1
 rcases hv1.open with ⟨e,-⟩|⟨-,bv,ov,cv,rfl,hcv,hbv,-⟩
 ·rw[e] at hvl;simp at hvl;omega
 rw[hvl] at hcv
 rw[hvl] at hv1 ⊢
 have HV1:=af hv1
 obtain⟨Wu,hWu⟩:∃ Wu,Wu=w2.alloc (.cells (madeCells #[.int .u32 0] (la+2)) 238):=⟨_,rfl⟩
 have bU:But [] w2 Wu:=by rw[hWu];exact (But.refl _ _).alloc _
 have rU:xk .u32 Wu w2.heap.size (List.replicate (la+2) 0):=by rw[hWu];exact xk.made _ _ _ _
 have sU:w2.heap.size<Wu.heap.size:=by rw[hWu];simp
 have BU:=af bU
 have RU:=af rU
 have SU:=af sU
 have HWU:=af hWu
 clear hv1 hb2 hvl bU rU sU hWu B1 LB SE f1 f2
 go_wp2_with fail
 rw[← ae HWU]
 refine (ae LA _ s hs31 ((ae HA).ah ((ae B2).trans' (ae BU)))).mono ?_
 rintro e w4 ⟨v2,rfl,hv2,hb4,-⟩
 rw[← hA] at hv2
 have hAlt:A<4294967296^(la+1):=by
  rw[hA,Nat.pow_succ]
  have h1:=ae HA1
  have h2:2^s≤2^31:=Nat.pow_le_pow_right (by omega) hs31
  exact Nat.lt_of_lt_of_le (Nat.mul_lt_mul_of_pos_right h1 (Nat.pow_pos (by omega))) (Nat.mul_le_mul_left _ (by omega))
 have hAl:(wd 4294967296 A).length≤la+1:=aj (by omega) A _ hAlt
 have hVge:2147483648*4294967296^(n-1)≤V:=by
  have e1:=tu (wd 4294967296 V) (n-1) (by rw[(ae GF).1];omega)
  rw[xw _ _ (n-1) (by rw[(ae GF).1];omega),qy (by omega)] at e1
  have e2:(wd 4294967296 V)[n-1]?.getD 0=zar V:=by unfold zar;rw[(ae GF).1]
  rw[e2] at e1
  have e3:4294967296^(n-1)*2147483648≤4294967296^(n-1)*(zar V+4294967296*vl 4294967296 ((wd 4294967296 V).drop (n-1+1))):=Nat.mul_le_mul_left _ (by have:=(ae GF).2;omega)
  rw[Nat.mul_comm]
  omega
 obtain⟨w5,hcp,HC⟩:=zvg w4 w2.heap.size (la+2) v2 (List.replicate (la+2) 0) (wd 4294967296 A) ((ae RU).but hb4 (by simp)) hv2 (by rw[List.length_replicate];omega)
 rw[List.length_replicate] at hcp
 have hL0:=zvx A V la n (wd 4294967296 A) (zt (by omega) A) (qy (by omega) A) (by omega) hAlt hVge (by omega) (by omega)
 obtain⟨us0,hus0⟩:∃ us0,us0=wd 4294967296 A++(List.replicate (la+2) 0).drop (wd 4294967296 A).length:=⟨_,rfl⟩
 rw[← hus0] at hL0 HC
 have hul0:us0.length=la+2:=by rw[hus0];simp;omega
 have B5:Hid (But [] w w5):=((ae B2).trans' ((ae BU).trans' hb4)).trans (ae HC).2 (fun x hx=>by simp at hx;subst hx;exact .inr (ae B2).size)
 have bv5:But [w2.heap.size] w2 w5:=(But.of_nil ((ae BU).trans' hb4)).trans (ae HC).2 (fun x hx=>.inl hx)
 have hg5:w2.heap.size<w5.heap.size:=Nat.lt_of_lt_of_le (ae SU) (Nat.le_trans hb4.size (ae HC).2.size)
 obtain⟨mm,hmm⟩:∃ mm,la+2-n=mm+1:=⟨la+1-n,by omega⟩
 rw[hmm] at hL0
 obtain⟨W,hW⟩:∃ W,W=w5.alloc (.cells (madeCells #[.int .u32 0] (mm+1)) 238):=⟨_,rfl⟩
 have bW:But [] w5 W:=by rw[hW];exact (But.refl _ _).alloc _
 have KA0:Hid (zgg W A V w2.heap.size w5.heap.size us0 (List.replicate (mm+1) 0) (mm+1) W):=⟨hL0,But.refl _ _,(ae HC).1.but bW (by simp),by rw[hW];exact xk.made _ _ _ _⟩
 have HVC:Hid (∀ wr,But [w2.heap.size,w5.heap.size] W wr→∀ i,i<n→wr.cell? ⟨bv,ov+i,none⟩=some (.int .u32 ((wd 4294967296 V)[i]?.getD 0:Nat))):=fun wr hb i hi=>by
  have h1:=(ae HV1).qbh bv5 (by simp;omega) i hi
  have h2:=bW.ag h1 (by simp)
  exact hb.ag h2 (by simp;omega)
 have BW:Hid (But [] w W):=(ae B5).trans' bW
 have hmkq:=fun wx=>zev wx mm (by omega)
 have em:(la:Int)+2-(n:Int)-1=(mm:Int):=by omega
 have HMM:=af hmm
 have HW:=af hW
 have HG5:=af (And.intro hg5 (ae B2).size)
 have VC1:=ae HVC W (But.refl _ _) (n-1) (by omega)
 have VC2:=ae HVC W (But.refl _ _) (n-2) (by omega)
 have hmn:mm+1+n=la+2:=by omega
 clear hv2 hb4 hL0 HC hcv bv5 hg5 bW hW hmm hus0 hAlt hAl hVge HWU
 have hv1B:(wd 4294967296 V)[n-1]?.getD 0<4294967296:=bt (zt (by omega) V) (by omega) _
 have hv2B:(wd 4294967296 V)[n-2]?.getD 0<4294967296:=bt (zt (by omega) V) (by omega) _
 obtain⟨x1,hx1⟩:∃ x1,x1=(wd 4294967296 V)[n-1]?.getD 0:=⟨_,rfl⟩
 obtain⟨x2,hx2⟩:∃ x2,x2=(wd 4294967296 V)[n-2]?.getD 0:=⟨_,rfl⟩
 rw[← hx1] at VC1 hv1B
 rw[← hx2] at VC2 hv2B
 have HX:=af (And.intro hx1 hx2)
 clear hx1 hx2
 go_wp2_with fail
 rw[← ae HW]
 go_quiet (fail)
 obtain⟨Wd,hWd⟩:∃ Wd,Wd=W.drewN nq:=⟨_,rfl⟩
 have KA:Hid (zgg W A V w2.heap.size w5.heap.size us0 (List.replicate (mm+1) 0) (mm+1) Wd):=by
  rw[hWd]
  exact⟨(ae KA0).long,(ae KA0).but.drewN nq,(ae KA0).row.drewN nq,(ae KA0).qrow.drewN nq⟩
 rw[← hWd]
 clear hWd KA0 VC1 VC2
 go_wp2_with fail
 have hu0:0<la:=by omega
 go_loopw [18] (fun jv wr=>∃ (t:Nat) (us qs:List Nat),t≤mm+1∧jv=.int .i64 ((t:Int)-1)∧us.length=la+2∧qs.length=mm+1∧Hid (zgg W A V w2.heap.size w5.heap.size us qs t wr)) (fun jv _=>(intOf jv+1).toNat)
 case atStart=>exact⟨mm+1,us0,List.replicate (mm+1) 0,Nat.le_refl _,by congr 1;omega,hul0,by simp,KA⟩
 case round =>(
 clear KA
 obtain⟨t,us,qs,ht,rfl,hul,hql,HK⟩:=hrel
 rename World=>wr
 by_cases ht0:t=0
 ·(
 subst ht0
 obtain⟨q1,q2⟩:=(ae HK).long.fin
 have hp:0<2^s:=Nat.pow_pos (by omega)
 rw[hA,hV,Nat.mul_div_mul_right _ _ hp] at q1
 rw[hA,hV,Nat.mul_mod_mul_right] at q2
 have sq:=(ae HK).qrow.sl (mm+1) (by omega)
 rw[hql] at sq
 have su:=(ae HK).row.sl (la+2) (by omega)
 rw[hul] at su
 have TQ:=af (zhb _ qs wr sq (ae HK).long.qm (by omega))
 have TU:=af (zhb _ us wr su (ae HK).long.um (by omega))
 rw[q1] at TQ
 rw[q2] at TU
 have hrl:(wd 4294967296 (A0%B0*2^s)).length<1073741824:=by
  have h9:A0%B0*2^s<4294967296^(la+2):=by rw[← q2];have:=ni (by omega:0<4294967296) us (ae HK).long.um;rw[hul] at this;exact this
  have:=aj (B:=4294967296) (by omega) _ _ h9
  omega
 have RR:=af (fun W' v' (h9:Sl .u32 W' v' (wd 4294967296 (A0%B0*2^s)))=>zvi v' _ s W' h9 hs31 hrl)
 rw[Nat.mul_div_cancel _ hp] at RR
 have BF:Hid (But [] w wr):=(ae BW).trans (ae HK).but (fun x hx=>.inr (by have h9:=ae HG5;have h8:=(ae BW).size;simp at hx;omega))
 clear HK q1 q2 hp sq su hrl
 go_wp2_with fail
 refine (ae TQ).mono ?_
 rintro e1 w6 ⟨v6,rfl,hv6,hw⟩
 obtain rfl:=hw.symm
 clear hw
 have HV6:=af hv6
 clear hv6 TQ
 go_wp2_with fail
 refine (ae TU).mono ?_
 rintro e2 w7 ⟨v7,rfl,hv7,hw⟩
 obtain rfl:=hw.symm
 clear hw
 have HV7:=af hv7
 clear hv7 TU
 go_wp2_with fail
 refine (ae RR _ _ (ae HV7)).mono ?_
 rintro e3 w8 ⟨v8,rfl,hv8,hb8,-⟩
 have FIN:=af (And.intro ((ae HV6).ah hb8) (And.intro hv8 ((ae BF).trans' hb8)))
 clear hv8 hb8 RR HV6 HV7
 go_wp2
 go_ret2
 exact⟨_,_,rfl,(ae FIN).1,(ae FIN).2.1,(ae FIN).2.2⟩)
 ·(
 obtain⟨j,rfl⟩:∃ j,t=j+1:=⟨t-1,by omega⟩
 rw[show (((j+1:Nat):Int)-1)=(j:Int) from by omega]
 have hVv:vl 4294967296 (wd 4294967296 V)=V:=qy (by omega) V
 have TP:=af (qhd us (wd 4294967296 V) j n h2 (ae GF).1 (by omega) (ae HK).long.um (zt (by omega) V) (by rw[hVv];have:=(ae HK).long.lt;rw[Nat.pow_succ,← Nat.mul_assoc] at this;exact this) (by have h:=(ae GF).2;unfold zar at h;rw[(ae GF).1] at h;exact h))
 rw[hVv,← (ae HX).1,← (ae HX).2] at TP
 clear hVv
 have r0:=(ae HK).row.row (j+n) (by omega)
 have r1:=(ae HK).row.row (j+n-1) (by omega)
 have r2:=(ae HK).row.row (j+n-2) (by omega)
 have c0:=r0.1
 have c1:=r1.1
 have c2:=r2.1
 have hu1:=(ae TP).hu1
 have hu2:=(ae TP).hu2
 have hu0B:us[j+n]?.getD 0<4294967296:=bt (ae HK).long.um (by omega) _
 obtain⟨y0,hy0⟩:∃ y0,y0=us[j+n]?.getD 0:=⟨_,rfl⟩
 obtain⟨y1,hy1⟩:∃ y1,y1=us[j+n-1]?.getD 0:=⟨_,rfl⟩
 obtain⟨y2,hy2⟩:∃ y2,y2=us[j+n-2]?.getD 0:=⟨_,rfl⟩
 rw[← hy0,← hy1,← hy2] at TP
 rw[← hy0] at c0 hu0B
 rw[← hy1] at c1 hu1
 rw[← hy2] at c2 hu2
 have HY:=af (And.intro hy0 (And.intro hy1 hy2))
 clear hy0 hy1 hy2 r0 r1 r2
 have OR1:=or_hi y1 y0 hu1 hu0B
 have hx1p:2147483648≤x1:=(ae TP).hi
 have xz:((x1:Int)==0)=false:=beq_eq_false_iff_ne.2 (by omega)
 obtain⟨num,hh⟩:∃ num,num=y1+y0*4294967296:=⟨_,rfl⟩
 rw[← hh] at OR1
 have hhB:num<18446744073709551616:=by omega
 have GS:=af (zbb.start (ae TP))
 rw[show y0*4294967296+y1=num from by omega] at GS
 have HH:=af hh
 clear hh
 obtain⟨g0,hg0⟩:∃ g0,g0=num/x1:=⟨_,rfl⟩
 obtain⟨r0,hr0⟩:∃ r0,r0=num%x1:=⟨_,rfl⟩
 rw[← hg0,← hr0] at GS
 have q1:(num:Int)/(x1:Int)=(g0:Int):=by rw[hg0,Int.natCast_ediv]
 have q2:(num:Int)%(x1:Int)=(r0:Int):=by rw[hr0,Int.natCast_emod]
 have q3:(num:Int).tdiv (x1:Int)=(g0:Int):=by rw[Int.tdiv_eq_ediv_of_nonneg (by omega)];exact q1
 have q4:(num:Int).tmod (x1:Int)=(r0:Int):=by rw[Int.tmod_eq_emod_of_nonneg (by omega)];exact q2
 have hr0x:r0<x1:=by rw[hr0];exact Nat.mod_lt _ (by omega)
 have hg0B:g0≤4294967297:=(ae GS).le
 clear hg0 hr0
 go_wp2_with fail
 go_quiet (fail)
 obtain⟨Wa,hWa⟩:∃ Wa,Wa=wr.drewN nq:=⟨_,rfl⟩
 rw[← hWa]
 go_wp2_with fail
 go_quiet (fail)
 obtain⟨Wb,hWb⟩:∃ Wb,Wb=Wa.drewN nq:=⟨_,rfl⟩
 have KB:Hid (zgg W A V w2.heap.size w5.heap.size us qs (j+1) Wb):=by
  rw[hWb,hWa]
  exact⟨(ae HK).long,((ae HK).but.drewN _).drewN nq,((ae HK).row.drewN _).drewN nq,((ae HK).qrow.drewN _).drewN nq⟩
 rw[← hWb]
 have cb2:Wb.cell? ⟨w2.heap.size,j+n-2,none⟩=some (.int .u32 (y2:Int)):=by rw[hWb,hWa];exact c2
 clear hWb hWa HK c0 c1 c2 q1 q2 q3 q4 OR1
 go_upto_block 2 with fail
 go_cut [20] (fun s20 wx=>∃ gF:Nat,s20=.int .u64 (gF:Int)∧wx=Wb∧Hid (gF≤4294967295∧(gF=vl 4294967296 us/(V*4294967296^j)∨gF=vl 4294967296 us/(V*4294967296^j)+1)))
 case first =>(
 go_wp2_with fail
 go_loop [20,21] (fun gv rv=>∃ gN rN:Nat,gv=.int .u64 (gN:Int)∧rv=.int .u64 (rN:Int)∧gN≤4294967297∧rN<4294967296∧Hid (zbb (vl 4294967296 us) (V*4294967296^j) y0 y1 x1 gN rN)) (fun gv _=>(intOf gv).toNat)
 case atStart=>exact⟨g0,r0,rfl,rfl,hg0B,by omega,ae GS⟩
 case round =>(
 obtain⟨gN,rN,rfl,rfl,hgN,hrN,HG⟩:=hrel
 have OR2:=or_hi y2 rN hu2 hrN
 obtain⟨z,hz⟩:∃ z,z=y2+rN*4294967296:=⟨_,rfl⟩
 rw[← hz] at OR2
 obtain⟨pp,hpp⟩:∃ pp,pp=gN*x2:=⟨_,rfl⟩
 have hzB:z<18446744073709551616:=by omega
 have hpi:(gN:Int)*(x2:Int)=(pp:Int):=by rw[hpp,Int.natCast_mul]
 have hppB:gN≤4294967295→pp<18446744073709551616:=fun h9=>by
  have:gN*x2≤4294967295*4294967295:=Nat.mul_le_mul h9 (by omega)
  omega
 have NXT:(4294967295<gN∨z<pp)→0<gN∧Hid (zbb (vl 4294967296 us) (V*4294967296^j) y0 y1 x1 (gN-1) (rN+x1)):=fun h9=>by
  have:=zbb.next (ae TP) (ae HG) (by rcases h9 with h9 | h9;exact .inl h9;exact .inr (by omega))
  exact⟨this.1,this.2⟩
 have FINB:∀ g,Hid (zbb (vl 4294967296 us) (V*4294967296^j) y0 y1 x1 g (rN+x1))→4294967296≤rN+x1→Hid (g≤4294967295∧(g=vl 4294967296 us/(V*4294967296^j)∨g=vl 4294967296 us/(V*4294967296^j)+1)):=fun g h8 h9=>by
  obtain⟨k1,k2⟩:=zbb.small (ae TP) (ae h8) h9
  exact⟨k1,zbb.fin (ae TP) (ae h8) k1 k2⟩
 have CASES:(4294967295<gN∧rN+x1<4294967296)∨(gN≤4294967295∧pp<18446744073709551616∧z<pp∧rN+x1<4294967296) ∨
   (∃ gF:Nat,(gN:Int)-1=(gF:Int)∧4294967295<gN∧4294967295<gN∧4294967296≤rN+x1∧0<gN∧Hid (gF≤4294967295∧(gF=vl 4294967296 us/(V*4294967296^j)∨gF=vl 4294967296 us/(V*4294967296^j)+1))) ∨
   (∃ gF:Nat,(gN:Int)-1=(gF:Int)∧gN≤4294967295∧z<pp∧4294967296≤rN+x1∧pp<18446744073709551616∧Hid (gF≤4294967295∧(gF=vl 4294967296 us/(V*4294967296^j)∨gF=vl 4294967296 us/(V*4294967296^j)+1))) ∨
   (∃ gF:Nat,gF=gN∧gF≤4294967295∧pp≤z∧pp≤z∧pp<18446744073709551616∧Hid (gF≤4294967295∧(gF=vl 4294967296 us/(V*4294967296^j)∨gF=vl 4294967296 us/(V*4294967296^j)+1))):=by
  rcases Nat.lt_or_ge 4294967295 gN with k1 | k1
  ·obtain⟨k2,k3⟩:=NXT (.inl k1)
   rcases Nat.lt_or_ge (rN+x1) 4294967296 with k4 | k4
   ·exact .inl ⟨k1,k4⟩
   ·exact .inr (.inr (.inl ⟨gN-1,by omega,k1,k1,k4,k2,FINB _ k3 k4⟩))
  ·rcases Nat.lt_or_ge z pp with k5 | k5
   ·obtain⟨k2,k3⟩:=NXT (.inr k5)
    rcases Nat.lt_or_ge (rN+x1) 4294967296 with k4 | k4
    ·exact .inr (.inl ⟨k1,hppB k1,k5,k4⟩)
    ·exact .inr (.inr (.inr (.inl ⟨gN-1,by omega,k1,k5,k4,hppB k1,FINB _ k3 k4⟩)))
   ·exact .inr (.inr (.inr (.inr ⟨gN,rfl,k1,k5,k5,hppB k1,k1,zbb.fin (ae TP) (ae HG) k1 (by omega)⟩)))
 have HNXT:=af NXT
 clear NXT FINB HG hppB hpp hz
 rcases CASES with ⟨k1,k4⟩|⟨k1,k2,k5,k4⟩|⟨gF,eF,k1,k2,k3,k4,GFIN⟩|⟨gF,eF,k1,k2,k3,k4,GFIN⟩|⟨gF,rfl,k1,k2,k3,k4,GFIN⟩
 ·(
 obtain⟨m1,m2⟩:=ae HNXT (.inl k1)
 obtain⟨gF,hgF⟩:∃ gF,gF=gN-1:=⟨_,rfl⟩
 rw[← hgF] at m2
 have eF:(gN:Int)-1=(gF:Int):=by omega
 have hlF:gF<gN:=by omega
 clear hgF HNXT
 go_wp2
 refine⟨⟨gF,rN+x1,rfl,by simp,by omega,k4,m2⟩,?_⟩
 simp[intOf];omega)
 ·(
 obtain⟨m1,m2⟩:=ae HNXT (.inr k5)
 obtain⟨gF,hgF⟩:∃ gF,gF=gN-1:=⟨_,rfl⟩
 rw[← hgF] at m2
 have eF:(gN:Int)-1=(gF:Int):=by omega
 have hlF:gF<gN:=by omega
 clear hgF HNXT
 go_wp2
 refine⟨⟨gF,rN+x1,rfl,by simp,by omega,k4,m2⟩,?_⟩
 simp[intOf];omega)
 all_goals(
 clear HNXT
 go_wp2_with fail
 go_meet
 exact⟨gF,rfl,rfl,GFIN⟩)))
 case rest =>(
 obtain⟨gF,rfl,hw9,GFIN⟩:=hcut
 obtain rfl:=hw9.symm
 clear hw9
 go_wp2_with fail
 have hgF:gF≤4294967295:=(ae GFIN).1
 have TK0:Hid (Taken us us (wd 4294967296 V) j 0 0 0 gF∧But [w2.heap.size] Wb Wb∧xk .u32 Wb w2.heap.size us):=⟨Taken.start us _ j gF (ae KB).long.um,But.refl _ _,(ae KB).row⟩
 go_loopw [22,23,24] (fun c d iv wq=>∃ (k cN dN:Nat) (uq:List Nat),k≤n∧c=.int .u64 (cN:Int)∧d=.int .u64 (dN:Int)∧iv=.int .i64 (k:Int)∧cN<4294967296∧dN≤1∧uq.length=la+2∧Hid (Taken us uq (wd 4294967296 V) j k cN dN gF∧But [w2.heap.size] Wb wq∧xk .u32 wq w2.heap.size uq)) (fun _ _ iv _=>n-(intOf iv).toNat)
 case atStart=>exact⟨0,0,0,us,Nat.zero_le _,rfl,rfl,rfl,by omega,by omega,hul,TK0⟩
 case round =>(
 clear TK0
 obtain⟨k,cN,dN,uq,hk,rfl,rfl,rfl,hcN,hdN,huq,HT⟩:=hrel
 rename World=>wq
 have bq:But [w2.heap.size,w5.heap.size] W wq:=(ae KB).but.trans (ae HT).2.1 (fun x hx=>.inl (by simp at hx;simp[hx]))
 by_cases hkn:k<n
 ·(
 have cv1:=ae HVC wq bq k hkn
 have hvB:(wd 4294967296 V)[k]?.getD 0<4294967296:=bt (zt (by omega) V) (by omega) k
 obtain⟨cu,fu⟩:=(ae HT).2.2.row (j+k) (by omega)
 have huB:uq[j+k]?.getD 0<4294967296:=bt (ae HT).1.mem (by omega) _
 obtain⟨c1,hc1⟩:∃ c1,c1=cN+gF*(wd 4294967296 V)[k]?.getD 0:=⟨_,rfl⟩
 obtain⟨lo,hlo⟩:∃ lo,lo=c1%4294967296:=⟨_,rfl⟩
 obtain⟨hi,hhi⟩:∃ hi,hi=c1/4294967296:=⟨_,rfl⟩
 obtain⟨d',hd'⟩:∃ d',d'=if uq[j+k]?.getD 0<lo+dN then 1 else 0:=⟨_,rfl⟩
 obtain⟨sN,hsN⟩:∃ sN,sN=uq[j+k]?.getD 0+4294967296*d' - (lo+dN):=⟨_,rfl⟩
 have hd1:d'≤1:=by rw[hd'];split <;> omega
 have hs1:sN<4294967296∧sN+lo+dN=uq[j+k]?.getD 0+4294967296*d':=by rw[hsN,hd'];split <;> omega
 have ST:=af ((ae HT).1.step (by rw[hul];omega) hvB hgF c1 sN d' hc1 hs1.1 hd1 (by rw[← hlo];exact hs1.2))
 rw[← hhi] at ST
 have hcc:hi<4294967296:=(ae ST).car
 have HSET:=af ((ae HT).2.2.set (j+k) (by omega) sN)
 have HB9:=af ((ae HT).2.1.setCell (p:=⟨w2.heap.size,j+k,none⟩) (.inl (by simp)) (.int .u32 (sN:Int)))
 obtain⟨pv,hpv⟩:∃ pv,pv=gF*(wd 4294967296 V)[k]?.getD 0:=⟨_,rfl⟩
 have hpvB:pv≤18446744065119617025:=by
  rw[hpv]
  have:gF*(wd 4294967296 V)[k]?.getD 0≤4294967295*4294967295:=Nat.mul_le_mul hgF (by omega)
  omega
 have ep:(gF:Int)*(((wd 4294967296 V)[k]?.getD 0:Nat):Int)=(pv:Int):=by rw[hpv,Int.natCast_mul]
 have ec:(cN:Int)+(pv:Int)=(c1:Int):=by rw[hc1,← hpv];omega
 have hc1B:c1<18446744073709551616:=by omega
 have el:(c1:Int)%4294967296=(lo:Int):=by omega
 have eh:(c1:Int)/4294967296=(hi:Int):=by omega
 clear HT hpv hc1
 rw[Nat.add_comm j k] at cu fu
 rw[Nat.add_comm j k] at huB hd' hs1
 generalize uq[k+j]?.getD 0=u0 at *
 generalize (wd 4294967296 V)[k]?.getD 0=vk at *
 obtain⟨m1,m2⟩:=hs1
 obtain⟨D,hD⟩:∃ D:Int,D=(u0:Int)-(lo:Int)-(dN:Int)+18446744073709551616*(d':Int):=⟨_,rfl⟩
 have hloB:lo<4294967296:=by omega
 have g1:IntKind.u64.wrap (IntKind.u64.wrap ((u0:Int)-(lo:Int))-(dN:Int))=D:=by rw[IntKind.wrap_u64,IntKind.wrap_u64];rw[hd'] at hD;split at hD <;> omega
 have g2:D%4294967296=(sN:Int):=by rw[hD];omega
 have g3:D/9223372036854775808=(d':Int):=by rw[hD];rw[hd'] at m2 ⊢;split <;> split at m2 <;> omega
 have d0:0≤D:=by rw[hD];omega
 clear hd' hsN hD m2 hlo hhi
 go_wp2
 rw[Nat.add_comm j k] at HSET HB9 ST
 refine⟨⟨k+1,hi,d',uq.set (k+j) sN,by omega,rfl,rfl,by go_num,hcc,hd1,by rw[List.length_set];exact huq,ae ST,ae HB9,ae HSET⟩,?_⟩
 simp[intOf];omega)
 ·(
 have hke:n=k:=by omega
 subst hke
 obtain⟨cu,fu⟩:=(ae HT).2.2.row (j+n) (by omega)
 have hsame:uq[j+n]?.getD 0=y0:=by rw[(ae HT).1.same (j+n) (Nat.le_refl _),← (ae HY).1]
 rw[hsame] at cu
 have hVv:vl 4294967296 (wd 4294967296 V)=V:=qy (by omega) V
 have hVl:=(ae GF).1
 have hSV:=(ae KB).long.lt
 have hVp:0<V:=by
  rcases Nat.eq_zero_or_pos V with h9 | h9
  ·rw[h9,Nat.zero_mul] at hSV;omega
  ·exact h9
 have hVB:V<4294967296^n:=by have:=ak (B:=4294967296) (by omega) V n (by omega);exact this
 have hWp:0<vl 4294967296 (wd 4294967296 V)*4294967296^j:=by rw[hVv];exact Nat.mul_pos hVp (Nat.pow_pos (by omega))
 have hSlt:vl 4294967296 us<4294967296^(j+n+1):=by
  refine Nat.lt_of_lt_of_le hSV ?_
  rw[show 4294967296^(j+n+1)=4294967296^n*4294967296^(j+1) from by rw[← Nat.pow_add];congr 1;omega]
  exact Nat.mul_le_mul_right _ (Nat.le_of_lt hVB)
 obtain⟨cq,fq⟩:=((ae KB).qrow.but (ae HT).2.1 (by simp;have:=(ae HG5).1;omega)).row j (by omega)
 have hqrow:=(ae KB).qrow.but (ae HT).2.1 (by simp;have:=(ae HG5).1;omega)
 have hne5:w5.heap.size≠w2.heap.size:=by have:=(ae HG5).1;omega
 have hne6:w2.heap.size≠w5.heap.size:=by omega
 by_cases hfit:cN+dN≤y0
 ·(
 obtain⟨e1,e2⟩:=zuy (ae HT).1 hVl (by omega) hsame hfit (by rw[hVv];have:=(ae GFIN).2;generalize vl 4294967296 us/(V*4294967296^j)=Q at *;omega) hWp
 rw[hVv] at e1 e2
 obtain⟨yy,hyy⟩:∃ yy,yy=y0-cN-dN:=⟨_,rfl⟩
 rw[← hyy] at e2
 have hyB:yy<4294967296:=by omega
 have LS:=(ae KB).long.step (us':=uq.set (j+n) yy) (by omega) e1 hVp (mem_set (ae HT).1.mem _ _ hyB) e2
 have KN:Hid (zgg W A V w2.heap.size w5.heap.size (uq.set (j+n) yy) (qs.set j gF) j ((wq.setCell ⟨w2.heap.size,j+n,none⟩ (.int .u32 (yy:Int))).setCell ⟨w5.heap.size,j,none⟩ (.int .u32 (gF:Int)))) :=
  ⟨LS,(bq.setCell (p:=⟨w2.heap.size,j+n,none⟩) (.inl (by simp)) _).setCell (p:=⟨w5.heap.size,j,none⟩) (.inl (by simp)) _,
  ((ae HT).2.2.set (j+n) (by omega) yy).but ((But.refl [w5.heap.size] _).setCell (p:=⟨w5.heap.size,j,none⟩) (.inl (by simp)) _) (by simp;omega),
  (hqrow.but ((But.refl [w2.heap.size] _).setCell (p:=⟨w2.heap.size,j+n,none⟩) (.inl (by simp)) _) (by simp;omega)).set j (by omega) gF⟩
 have EY:Hid ((y0:Int)-(cN:Int)-(dN:Int)=(yy:Int)):=by show _=_;omega
 have g1:IntKind.u64.wrap (IntKind.u64.wrap ((y0:Int)-(cN:Int))-(dN:Int))=(yy:Int):=by rw[IntKind.wrap_u64,IntKind.wrap_u64];omega
 have g2:(yy:Int)%4294967296=(yy:Int):=by omega
 have g3:(yy:Int)/9223372036854775808=0:=by omega
 have g4:(gF:Int)%4294967296=(gF:Int):=by omega
 clear HT e1 e2 LS hyy hWp hSlt hSV hVB hVp hqrow hsame hVv bq
 generalize qs[j]?.getD 0=qj at *
 go_wp2
 try rw[ae EY]
 refine⟨⟨j,uq.set (j+n) yy,qs.set j gF,by omega,rfl,by rw[List.length_set];exact huq,by rw[List.length_set];exact hql,KN⟩,?_⟩
 simp[intOf])
 ·(
 obtain⟨e1,e2,e3,e4⟩:=zux (ae HT).1 hVl (by omega) hsame (by omega) (by rw[hVv];exact (ae GFIN).2) hSlt
 rw[hVv] at e1 e2
 obtain⟨yy,hyy⟩:∃ yy,yy=y0+4294967296-(cN+dN):=⟨_,rfl⟩
 rw[← hyy] at e2 e3 e4
 have hyB:yy<4294967296:=by omega
 obtain⟨gE,hgE⟩:∃ gE,gE=vl 4294967296 us/(V*4294967296^j):=⟨_,rfl⟩
 rw[← hgE] at e1
 obtain⟨Wc,hWc⟩:∃ Wc,Wc=wq.setCell ⟨w2.heap.size,j+n,none⟩ (.int .u32 (yy:Int)):=⟨_,rfl⟩
 obtain⟨uc,huc⟩:∃ uc,uc=uq.set (j+n) yy:=⟨_,rfl⟩
 rw[← huc] at e2 e3 e4
 have rc:xk .u32 Wc w2.heap.size uc:=by rw[hWc,huc];exact (ae HT).2.2.set (j+n) (by omega) yy
 have hucl:uc.length=la+2:=by rw[huc,List.length_set];exact huq
 have bc:But [w2.heap.size,w5.heap.size] W Wc:=by rw[hWc];exact bq.setCell (p:=⟨w2.heap.size,j+n,none⟩) (.inl (by simp)) _
 have qc:xk .u32 Wc w5.heap.size qs:=by rw[hWc];exact hqrow.but ((But.refl [w2.heap.size] _).setCell (p:=⟨w2.heap.size,j+n,none⟩) (.inl (by simp)) _) (by simp;omega)
 have BK0:Hid (zrj uc uc (wd 4294967296 V) j 0 0∧But [w2.heap.size] Wc Wc∧xk .u32 Wc w2.heap.size uc):=⟨zrj.start uc _ j e3,But.refl _ _,rc⟩
 have HE:=af (And.intro e2 (And.intro e3 (And.intro e4 hgE)))
 have HVV:=af (And.intro hVv (And.intro hVp hVB))
 have HCC:=af (And.intro bc qc)
 have hWcS:=af hWc
 have g1:IntKind.u64.wrap (IntKind.u64.wrap ((y0:Int)-(cN:Int))-(dN:Int))=18446744073709551616+(y0:Int)-(cN:Int)-(dN:Int):=by rw[IntKind.wrap_u64,IntKind.wrap_u64];omega
 have g2:(18446744073709551616+(y0:Int)-(cN:Int)-(dN:Int))%4294967296=(yy:Int):=by omega
 have g3:(18446744073709551616+(y0:Int)-(cN:Int)-(dN:Int))/9223372036854775808=1:=by omega
 have g4:(gF:Int)-1=(gE:Int):=by omega
 have hgEB:gE<4294967296:=by omega
 clear HT e2 e3 e4 hgE hyy hWp hSlt hSV hVB hVp hqrow hsame hVv bq rc bc qc hWc huc cq fq
 go_wp2_with fail
 rw[← ae hWcS]
 go_loopw [22,27] (fun c iv wx=>∃ (k cK:Nat) (ux:List Nat),k≤n∧c=.int .u64 (cK:Int)∧iv=.int .i64 (k:Int)∧cK≤1∧ux.length=la+2∧Hid (zrj uc ux (wd 4294967296 V) j k cK∧But [w2.heap.size] Wc wx∧xk .u32 wx w2.heap.size ux)) (fun _ iv _=>n-(intOf iv).toNat)
 case atStart=>exact⟨0,0,uc,Nat.zero_le _,rfl,rfl,by omega,hucl,BK0⟩
 case round =>(
 clear BK0 g1 g2 g3 g4
 obtain⟨k,cK,ux,hk,rfl,rfl,hcK,hux,HT⟩:=hrel
 rename World=>wx
 have bx:But [w2.heap.size,w5.heap.size] W wx:=(ae HCC).1.trans (ae HT).2.1 (fun x hx=>.inl (by simp at hx;simp[hx]))
 by_cases hkn:k<n
 ·(
 have cv1:=ae HVC wx bx k hkn
 have hvB:(wd 4294967296 V)[k]?.getD 0<4294967296:=bt (zt (by omega) V) (by omega) k
 obtain⟨cu,fu⟩:=(ae HT).2.2.row (j+k) (by omega)
 have huB:ux[j+k]?.getD 0<4294967296:=bt (ae HT).1.mem (by omega) _
 obtain⟨c1,hc1⟩:∃ c1,c1=cK+(ux[j+k]?.getD 0+(wd 4294967296 V)[k]?.getD 0):=⟨_,rfl⟩
 obtain⟨lo,hlo⟩:∃ lo,lo=c1%4294967296:=⟨_,rfl⟩
 obtain⟨hi,hhi⟩:∃ hi,hi=c1/4294967296:=⟨_,rfl⟩
 have ST:=af ((ae HT).1.step (by omega) hvB huB c1 hc1)
 rw[← hlo,← hhi] at ST
 have hcc:hi≤1:=(ae ST).car
 have HR:=af (ae HT).2.2
 have HB9:=af (ae HT).2.1
 have ec:(cK:Int)+(((ux[j+k]?.getD 0:Nat):Int)+(((wd 4294967296 V)[k]?.getD 0:Nat):Int))=(c1:Int):=by rw[hc1];omega
 have hc1B:c1<18446744073709551616:=by omega
 have el:(c1:Int)%4294967296=(lo:Int):=by omega
 have eh:(c1:Int)/4294967296=(hi:Int):=by omega
 clear HT hc1 hlo hhi bx
 rw[Nat.add_comm j k] at cu fu ST ec huB
 generalize ux[k+j]?.getD 0=u0 at *
 generalize (wd 4294967296 V)[k]?.getD 0=vk at *
 go_wp2_with fail
 go_quiet (fail)
 go_wp2
 refine⟨⟨k+1,hi,ux.set (k+j) lo,by omega,rfl,by go_num,hcc,by rw[List.length_set];exact hux,ae ST,((ae HB9).drewN nq).setCell (p:=⟨w2.heap.size,k+j,none⟩) (.inl (by simp)) _,((ae HR).drewN nq).set (k+j) (by omega) lo⟩,?_⟩
 simp[intOf];omega)
 ·(
 have hke:n=k:=by omega
 subst hke
 obtain⟨hVv,hVp,hVB⟩:=ae HVV
 obtain⟨e2,e3,e4,hgE⟩:=ae HE
 obtain⟨cu,fu⟩:=(ae HT).2.2.row (j+n) (by omega)
 have hWp:0<V*4294967296^j:=Nat.mul_pos hVp (Nat.pow_pos (by omega))
 obtain⟨b1,b2⟩:=qgk (R:=vl 4294967296 us%(V*4294967296^j)) (W:=V*4294967296^j) (ae HT).1 hVl (by omega) e4 (by rw[hVv]) (by rw[Nat.add_comm j n,Nat.pow_add];exact Nat.mul_le_mul_right _ (Nat.le_of_lt hVB)) (Nat.mod_lt _ hWp) e2
 have qx:=(ae HCC).2.but (ae HT).2.1 (by simp;omega)
 obtain⟨cq,fq⟩:=qx.row j (by omega)
 have LS:=(ae KB).long.step (us':=ux.set (j+n) 0) (by omega) hgE hVp (mem_set (ae HT).1.mem _ _ (by omega)) b2
 have KN:Hid (zgg W A V w2.heap.size w5.heap.size (ux.set (j+n) 0) (qs.set j gE) j ((wx.setCell ⟨w2.heap.size,j+n,none⟩ (.int .u32 0)).setCell ⟨w5.heap.size,j,none⟩ (.int .u32 (gE:Int)))) :=
  ⟨LS,(bx.setCell (p:=⟨w2.heap.size,j+n,none⟩) (.inl (by simp)) _).setCell (p:=⟨w5.heap.size,j,none⟩) (.inl (by simp)) _,
  ((ae HT).2.2.set (j+n) (by omega) 0).but ((But.refl [w5.heap.size] _).setCell (p:=⟨w5.heap.size,j,none⟩) (.inl (by simp)) _) (by simp;omega),
  (qx.but ((But.refl [w2.heap.size] _).setCell (p:=⟨w2.heap.size,j+n,none⟩) (.inl (by simp)) _) (by simp;omega)).set j (by omega) gE⟩
 have w32:IntKind.u32.wrap (((ux[j+n]?.getD 0:Nat):Int)+(cK:Int))=0:=by
  rw[← Int.natCast_add,b1,IntKind.wrap_u32'];rfl
 have hucB:ux[j+n]?.getD 0<4294967296:=bt (ae HT).1.mem (by omega) _
 have h64:(cK:Int)%4294967296=(cK:Int):=by omega
 have g4:(gE:Int)%4294967296=(gE:Int):=by omega
 clear HT e2 e3 e4 hgE b1 b2 LS hWp hVB hVp hVv bx qx
 generalize ux[j+n]?.getD 0=tt at *
 generalize qs[j]?.getD 0=qj at *
 go_wp2
 refine⟨⟨j,ux.set (j+n) 0,qs.set j gE,by omega,rfl,by rw[List.length_set];exact hux,by rw[List.length_set];exact hql,KN⟩,?_⟩
 simp[intOf])))))))))
theorem dm (m:Nat) (h:m<18446744073709551616):(wd 4294967296 m).length≤2:=aj (by omega) m 2 (by omega)
theorem zam (m:Nat) (h:(wd 4294967296 m).length≤2):m<18446744073709551616:=by have:=ak (B:=4294967296) (by omega) m 2 h;omega
theorem qay (va vb:Value) (m n:Nat) (w:World) (ha:Sl .u32 w va (wd 4294967296 m)) (hb:Sl .u32 w vb (wd 4294967296 n)) (hm:m<18446744073709551616) (hn:n<18446744073709551616) (hn0:0<n) :
   Calls prog 198 #[va,vb] w fun e w'=>∃ v1 v2,e=.returned (.tuple #[v1,v2])∧Sl .u32 w' v1 (wd 4294967296 (m/n))∧Sl .u32 w' v2 (wd 4294967296 (m%n))∧But [] w w':=by(
 have hla:=dm m hm
 have hlb:=dm n hn
 have hl0:0<(wd 4294967296 n).length:=by
  have:=zq (B:=4294967296) (by omega) n
  omega
 have HC:=af (zee va vb m n w ha hb (by omega) (by omega))
 have HT:=af (fun k=>zes va (wd 4294967296 m) (w.drewN k) ha (by omega))
 have PA:=af (fun k=>zbp va m (w.drewN k) ha hm)
 have PB:=af (fun k=>zbp vb n (w.drewN k) hb hn)
 obtain⟨a,cap,rfl,-,-⟩:=ha
 obtain⟨b,cap',rfl,-,-⟩:=hb
 have n0:(((wd 4294967296 n).length:Int)==0)=false:=by simp;intro h;simp[h] at hl0
 generalize (wd 4294967296 m).length=la at *
 generalize (wd 4294967296 n).length=lb at *
 by_cases hlt:m<n
 ·(
 have hc:Hid (zy m n=-1):=by show _=_;simp[zy,hlt]
 go_enter func198,ntmps198
 go_wp2_with fail
 refine (ae HC).mono ?_
 rintro e w1 ⟨rfl,k,rfl⟩
 rw[ae hc]
 go_wp2_with fail
 refine (ae HT k).mono ?_
 rintro e w1 ⟨v',rfl,hs,hb1,-⟩
 go_wp2
 go_ret2
 refine⟨_,v',rfl,?_,?_,((But.refl _ _).drewN k).trans' hb1⟩
 ·rw[Nat.div_eq_of_lt hlt,zo];exact Sl.nil _ _
 ·rw[Nat.mod_eq_of_lt hlt];exact hs)
 ·(
 have hc:Hid (0≤zy m n):=by show _≤_;simp only[zy];rw[if_neg hlt];split <;> omega
 go_enter func198,ntmps198
 go_wp2_with fail
 refine (ae HC).mono ?_
 rintro e w1 ⟨rfl,k,rfl⟩
 have hc0:=ae hc
 generalize zy m n=c at *
 go_wp2_with fail
 refine (ae PA k).mono ?_
 rintro e w1 ⟨rfl,hw1⟩
 obtain rfl:=hw1.symm
 go_wp2_with fail
 refine (ae PB k).mono ?_
 rintro e w1 ⟨rfl,hw1⟩
 obtain rfl:=hw1.symm
 clear hw1 HC HT PA PB hc
 obtain⟨W,hW⟩:∃ W,W=w.drewN k:=⟨_,rfl⟩
 rw[← hW]
 have HW:=af hW
 clear hW
 have hq0:((n:Int)==0)=false:=by simp;omega
 obtain⟨q,hq⟩:∃ q:Nat,q=m/n:=⟨_,rfl⟩
 obtain⟨r,hr⟩:∃ r:Nat,r=m%n:=⟨_,rfl⟩
 have hq64:q<18446744073709551616:=by rw[hq];exact Nat.lt_of_le_of_lt (Nat.div_le_self _ _) hm
 have hr64:r<18446744073709551616:=by rw[hr];exact Nat.lt_trans (Nat.mod_lt _ hn0) hn
 have e1:(m:Int)/(n:Int)=(q:Int):=by rw[hq,Int.natCast_ediv]
 have e2:(m:Int)%(n:Int)=(r:Int):=by rw[hr,Int.natCast_emod]
 have e3:(m:Int).tdiv (n:Int)=(q:Int):=by rw[Int.tdiv_eq_ediv_of_nonneg (by omega)];exact e1
 have e4:(m:Int).tmod (n:Int)=(r:Int):=by rw[Int.tmod_eq_emod_of_nonneg (by omega)];exact e2
 have e5:IntKind.u64.wrap (q:Int)=(q:Int):=by rw[IntKind.wrap_u64];omega
 have HQ:=af hq
 have HR:=af hr
 clear hq hr
 go_wp2
 go_region_with (first
  | (go_at_call_of 201 (Value.int IntKind.u64 (q:Int));refine (zbn q _ hq64).mono ?_;rintro e wq ⟨vq,rfl,hvq,hbq,-⟩)
  | (go_at_call_of 201 (Value.int IntKind.u64 (r:Int));refine (zbn r _ hr64).mono ?_;rintro e wr ⟨vr,rfl,hvr,hbr,-⟩))
 all_goals go_wp2
 all_goals go_ret2
 all_goals rw[← ae HQ,← ae HR]
 all_goals have h1:But [] w W:=by rw[ae HW];exact (But.refl _ _).drewN k
 all_goals first
  | exact⟨vq,vr,rfl,hvq.ah hbr,hvr,(h1.drew.trans' hbq).trans' hbr⟩
  | exact⟨vq,vr,rfl,hvq,hvr.ah hbq,(h1.drew.trans' hbr).trans' hbq⟩))
theorem qfx (va vb:Value) (m n:Nat) (w:World) (ha:Sl .u32 w va (wd 4294967296 m)) (hb:Sl .u32 w vb (wd 4294967296 n)) (hlt:m<n) (hl:(wd 4294967296 n).length<1073741824) :
   Calls prog 198 #[va,vb] w fun e w'=>∃ v1 v2,e=.returned (.tuple #[v1,v2])∧Sl .u32 w' v1 (wd 4294967296 (m/n))∧Sl .u32 w' v2 (wd 4294967296 (m%n))∧But [] w w':=by(
 have hlen:(wd 4294967296 m).length≤(wd 4294967296 n).length:=aj (by omega) m _ (Nat.lt_trans hlt (ak (by omega) n _ (Nat.le_refl _)))
 have hl0:0<(wd 4294967296 n).length:=by
  have:=zq (B:=4294967296) (by omega) n
  omega
 have HC:=af (zee va vb m n w ha hb (by omega) (by omega))
 have HT:=af (fun k=>zes va (wd 4294967296 m) (w.drewN k) ha (by omega))
 obtain⟨a,cap,rfl,-,-⟩:=ha
 obtain⟨b,cap',rfl,-,-⟩:=hb
 have n0:(((wd 4294967296 n).length:Int)==0)=false:=by simp;intro h;simp[h] at hl0
 generalize (wd 4294967296 m).length=la at *
 generalize (wd 4294967296 n).length=lb at *
 have hc:Hid (zy m n=-1):=by show _=_;simp[zy,hlt]
 go_enter func198,ntmps198
 go_wp2_with fail
 refine (ae HC).mono ?_
 rintro e w1 ⟨rfl,k,rfl⟩
 rw[ae hc]
 go_wp2_with fail
 refine (ae HT k).mono ?_
 rintro e w1 ⟨v',rfl,hs,hb1,-⟩
 go_wp2
 go_ret2
 refine⟨_,v',rfl,?_,?_,((But.refl _ _).drewN k).trans' hb1⟩
 ·rw[Nat.div_eq_of_lt hlt,zo];exact Sl.nil _ _
 ·rw[Nat.mod_eq_of_lt hlt];exact hs)
theorem qfv (va vb:Value) (m n:Nat) (w:World) (ha:Sl .u32 w va (wd 4294967296 m)) (hb:Sl .u32 w vb (wd 4294967296 n)) (hle:n≤m) (h3:3≤(wd 4294967296 m).length) (h1:(wd 4294967296 n).length=1) (hl:(wd 4294967296 m).length<1073741824) :
   Calls prog 198 #[va,vb] w fun e w'=>∃ v1 v2,e=.returned (.tuple #[v1,v2])∧Sl .u32 w' v1 (wd 4294967296 (m/n))∧Sl .u32 w' v2 (wd 4294967296 (m%n))∧But [] w w':=by(
 have hn0:0<n:=by
  rcases Nat.eq_zero_or_pos n with h | h
  ·subst h;rw[zo] at h1;simp at h1
  ·exact h
 have hnB:n<4294967296:=by have:=ak (B:=4294967296) (by omega) n 1 (by omega);simpa using this
 have HC:=af (zee va vb m n w ha hb (by omega) (by omega))
 have hc0:=zbl hle
 generalize zy m n=c at *
 have hr:decide (c<0)=false:=by simp;omega
 have hwn:wd 4294967296 n=[n]:=by
  rcases qbq n (by omega) with ⟨h,-⟩|⟨-,-,h⟩|⟨h,-⟩
  ·omega
  ·exact h
  ·omega
 rcases hb.open with ⟨e,-⟩|⟨-,b,off,cap',rfl,hcc,hbl,hcell⟩
 ·rw[e] at h1;simp at h1
 have cx:=hcell 0 (by omega)
 rw[hwn] at cx
 simp only[List.getElem?_cons_zero,Option.getD_some,Nat.add_zero] at cx
 have SM:=af (fun W (h:Sl .u32 W va (wd 4294967296 m))=>zyz va m n W h hn0 hnB hl)
 have HA:=af ha
 obtain⟨a,cap,rfl,-,-⟩:=ha
 rw[h1] at HC
 rw[h1]
 have HRB:Hid (m%n<4294967296):=Nat.lt_trans (Nat.mod_lt _ hn0) hnB
 obtain⟨rr,hrr⟩:∃ rr,rr=m%n:=⟨_,rfl⟩
 rw[← hrr] at HRB SM
 have HRR:=af hrr
 clear hrr
 clear hcell hb hwn h1 hcc hle
 generalize (wd 4294967296 m).length=la at *
 go_enter func198,ntmps198
 go_wp2_with fail
 refine (ae HC).mono ?_
 rintro e w1 ⟨rfl,q,rfl⟩
 go_wp2_with fail
 refine (ae SM _ ((ae HA).ah ((But.refl _ _).drewN q))).mono ?_
 rintro e w2 ⟨v1,rfl,hv1,hb1⟩
 have B2:Hid (But [] w w2):=((But.refl [] _).drewN q).trans' hb1
 have HV1:=af hv1
 clear hv1 hb1 SM HC
 have h0:Sl .u32 (w2.alloc (.cells #[.int .u32 (rr:Int)] 238)) (.slice (some ⟨w2.heap.size,0,none⟩) 1 1) [rr] :=
  Sl.mk (xs:=[rr]) w2.heap.size 0 1 (by simp) (fun i hi=>by
   match i,hi with
   | 0,_=>simp) (fun _ i v hv=>by
   rw[World.cell?_alloc_new] at hv
   match i,hv with
   | 0,hv=>exact⟨_,(by simpa using hv.symm)⟩
   | i+1,hv=>simp at hv)
 have TR:=af (zhb _ [rr] _ h0 (fun x hx=>by simp at hx;have:=ae HRB;omega) (by simp))
 rw[show vl 4294967296 [rr]=rr from by simp[vl]] at TR
 clear h0
 go_wp2_with fail
 refine (ae TR).mono ?_
 rintro e w3 ⟨v2,rfl,hv2,hw⟩
 obtain rfl:=hw.symm
 clear hw
 have FIN:=af hv2
 clear hv2 TR
 go_wp2
 go_ret2
 exact⟨_,_,rfl,(ae HV1).ah ((But.refl _ _).alloc _),by rw[← ae HRR];exact ae FIN,(ae B2).alloc _⟩)
theorem zid (va vb:Value) (m n:Nat) (w:World) (ha:Sl .u32 w va (wd 4294967296 m)) (hb:Sl .u32 w vb (wd 4294967296 n)) (hn0:0<n) (hla:(wd 4294967296 m).length<8388608) (hlb:(wd 4294967296 n).length<8388608) :
   Calls prog 198 #[va,vb] w fun e w'=>∃ v1 v2,e=.returned (.tuple #[v1,v2])∧Sl .u32 w' v1 (wd 4294967296 (m/n))∧Sl .u32 w' v2 (wd 4294967296 (m%n))∧But [] w w':=by(
 rcases Nat.lt_or_ge m n with hlt | hle
 ·exact qfx va vb m n w ha hb hlt (by omega)
 ·(
 have hlen:(wd 4294967296 n).length≤(wd 4294967296 m).length:=aj (by omega) n _ (Nat.lt_of_le_of_lt hle (ak (by omega) m _ (Nat.le_refl _)))
 by_cases h2:(wd 4294967296 m).length≤2
 ·exact qay va vb m n w ha hb (zam m h2) (zam n (by omega)) hn0
 ·have h0:(wd 4294967296 n).length≠0:=fun e=>by rw[zq (by omega)] at e;omega
  by_cases h1:(wd 4294967296 n).length=1
  ·exact qfv va vb m n w ha hb hle (by omega) h1 (by omega)
  ·exact qfw va vb m n w ha hb hle (by omega) (by omega) hla))
theorem zea (m k:Nat):Nat.gcd k (m%k)=Nat.gcd m k:=by rw[Nat.gcd_comm m k,Nat.gcd_rec k m,Nat.gcd_comm]
theorem zuh (va vb:Value) (M N:Nat) (w:World) (ha:Sl .u32 w va (wd 4294967296 M)) (hb:Sl .u32 w vb (wd 4294967296 N)) (hla:(wd 4294967296 M).length<8388608) (hlb:(wd 4294967296 N).length<8388608) :
   Calls prog 197 #[va,vb] w fun e w'=>∃ v',e=.returned v'∧Sl .u32 w' v' (wd 4294967296 (Nat.gcd M N))∧But [] w w':=by(
 have A0:Hid (∃ m,Sl .u32 w va (wd 4294967296 m)∧Sl .u32 w vb (wd 4294967296 N)∧Nat.gcd m N=Nat.gcd M N∧But [] w w∧(wd 4294967296 m).length<8388608∧(wd 4294967296 N).length<8388608):=⟨M,ha,hb,rfl,But.refl _ _,hla,hlb⟩
 obtain⟨aa,ca,rfl,-,-⟩:=ha
 obtain⟨ab,cb,rfl,-,-⟩:=hb
 generalize (wd 4294967296 M).length=l1 at *
 generalize hl2:(wd 4294967296 N).length=l2 at *
 have HN2:=af hl2
 clear hl2
 go_enter func197,ntmps197
 go_wp2_with fail
 go_loopg [0,1] N (fun k p1 p2 wr=>Hid (∃ m,Sl .u32 wr p1 (wd 4294967296 m)∧Sl .u32 wr p2 (wd 4294967296 k)∧Nat.gcd m k=Nat.gcd M N∧But [] w wr∧(wd 4294967296 m).length<8388608∧(wd 4294967296 k).length<8388608))
 case atStart =>
  obtain⟨m,h1,h2,h3,h4,h5,h6⟩:=ae A0
  exact⟨m,h1,h2,h3,h4,h5,by rw[ae HN2];exact h6⟩
 case round =>(
 clear A0
 obtain⟨m,s1,s2,hg,hB,hm,hk⟩:=ae hrel
 clear hrel
 rename World=>wr
 by_cases hk2:2<(wd 4294967296 gk).length
 ·(
 have hk0:0<gk:=by
  rcases Nat.eq_zero_or_pos gk with h | h
  ·subst h;rw[zo] at hk2;simp at hk2
  ·exact h
 have DV:=af (zid _ _ m gk wr s1 s2 hk0 hm hk)
 have hlr:(wd 4294967296 (m%gk)).length<8388608:=Nat.lt_of_le_of_lt (aj (by omega) _ _ (Nat.lt_trans (Nat.mod_lt _ hk0) (ak (by omega) gk _ (Nat.le_refl _)))) hk
 have KP:=af (And.intro s2 (And.intro (by rw[zea];exact hg:Nat.gcd gk (m%gk)=Nat.gcd M N) (And.intro hB (And.intro hk hlr))))
 have hlt:=Nat.mod_lt m hk0
 obtain⟨a1,c1,rfl,-,-⟩:=s1
 obtain⟨a2,c2,rfl,-,-⟩:=s2
 clear hg hB hlr hm hk
 generalize (wd 4294967296 m).length=n1 at *
 generalize hn2:(wd 4294967296 gk).length=n2 at *
 have HN3:=af hn2
 clear hn2
 go_wp2_with fail
 refine (ae DV).mono ?_
 rintro e w2 ⟨v1,v2,rfl,-,hv2,hb2⟩
 have R:Hid (∃ m',Sl .u32 w2 (.slice a2 n2 c2) (wd 4294967296 m')∧Sl .u32 w2 v2 (wd 4294967296 (m%gk))∧Nat.gcd m' (m%gk)=Nat.gcd M N∧But [] w w2∧(wd 4294967296 m').length<8388608∧(wd 4294967296 (m%gk)).length<8388608):=⟨gk,(ae KP).1.ah hb2,hv2,(ae KP).2.1,(ae KP).2.2.1.trans' hb2,by rw[ae HN3];exact (ae KP).2.2.2.1,(ae KP).2.2.2.2⟩
 clear hv2 hb2 DV KP
 go_wp2
 go_roundg (m%gk)
 case measure=>exact hlt
 case rel=>exact ae R)
 ·(
 have hkB:gk<18446744073709551616:=zam gk (by omega)
 rcases Nat.eq_zero_or_pos gk with hz | hz
 ·(
 subst hz
 rw[Nat.gcd_zero_right] at hg
 rw[hg] at s1
 rw[zo] at s2
 have FIN:=af (And.intro s1 hB)
 obtain⟨a1,c1,rfl,-,-⟩:=s1
 obtain⟨a2,c2,rfl,-,-⟩:=s2
 clear hg hB hm hk hk2 hkB
 generalize (wd 4294967296 (Nat.gcd M N)).length=n1 at *
 go_wp2
 go_ret
 exact⟨_,rfl,(ae FIN).1,(ae FIN).2⟩)
 ·(
 have hl0:(wd 4294967296 gk).length≠0:=fun e=>by rw[zq (by omega)] at e;omega
 by_cases hm2:2<(wd 4294967296 m).length
 ·(
 have DV:=af (zid _ _ m gk wr s1 s2 hz hm hk)
 have hrB:m%gk<18446744073709551616:=Nat.lt_trans (Nat.mod_lt _ hz) hkB
 have PB:=af (fun W v (h:Sl .u32 W v (wd 4294967296 gk))=>zbp v gk W h hkB)
 have PR:=af (fun W v (h:Sl .u32 W v (wd 4294967296 (m%gk)))=>zbp v (m%gk) W h hrB)
 have HS2:=af s2
 have HGB:=af (And.intro (by rw[zea];exact hg:Nat.gcd gk (m%gk)=Nat.gcd M N) hB)
 obtain⟨a1,c1,rfl,-,-⟩:=s1
 obtain⟨a2,c2,rfl,-,-⟩:=s2
 clear hg hB hm hk
 generalize (wd 4294967296 m).length=n1 at *
 generalize (wd 4294967296 gk).length=n2 at *
 have n0:((n2:Int)==0)=false:=beq_eq_false_iff_ne.2 (by omega)
 go_wp2_with fail
 refine (ae DV).mono ?_
 rintro e w2 ⟨v1,v2,rfl,-,hv2,hb2⟩
 have HV2:=af hv2
 have HS3:=af ((ae HS2).ah hb2)
 have START:Hid (Nat.gcd gk (m%gk)=Nat.gcd M N∧But [] w w2):=⟨(ae HGB).1,(ae HGB).2.trans' hb2⟩
 clear hv2 hb2 DV HS2 HGB
 go_wp2_with fail
 refine (ae PB _ _ (ae HS3)).mono ?_
 rintro e w3 ⟨rfl,hw⟩
 obtain rfl:=hw.symm
 clear hw
 go_wp2_with fail
 refine (ae PR _ _ (ae HV2)).mono ?_
 rintro e w3 ⟨rfl,hw⟩
 obtain rfl:=hw.symm
 clear hw PB PR HV2 HS3
 go_wp2_with fail
 go_loopw [9,10] (fun x y w'=>∃ p q:Nat,x=.int .u64 p∧y=.int .u64 q∧p<18446744073709551616∧q<18446744073709551616∧Hid (Nat.gcd p q=Nat.gcd M N∧But [] w w')) (fun _ y _=>(intOf y).toNat)
 case atStart=>exact⟨gk,m%gk,rfl,rfl,hkB,hrB,START⟩
 case round =>(
 clear START
 obtain⟨p,q,rfl,rfl,hp,hq,HG⟩:=hrel
 rename World=>wq
 by_cases h0:q=0
 ·(
 subst h0
 have hgg:=(ae HG).1
 rw[Nat.gcd_zero_right] at hgg
 have HGG:=af hgg
 clear hgg
 go_wp2_with fail
 refine (zbn p _ hp).mono ?_
 rintro e w' ⟨v',rfl,hs,hb1,-⟩
 rw[ae HGG] at hs
 have FIN:=af (And.intro hs ((ae HG).2.trans' hb1))
 clear hs hb1
 go_wp2
 go_ret
 exact⟨v',rfl,(ae FIN).1,(ae FIN).2⟩)
 ·(
 have hbq:((q:Int)==0)=false:=by simp;exact h0
 have hlt:0<q:=Nat.pos_of_ne_zero h0
 go_wp2
 go_quiet (fail)
 go_roundw
 case rel =>(
 refine⟨_,_,_,_,_,_,_,_,⟨q,p%q,rfl,?_,hq,?_,?_⟩,rfl⟩
 ·rw[Int.natCast_emod]
 ·exact Nat.lt_trans (Nat.mod_lt _ (Nat.pos_of_ne_zero h0)) hq
 ·exact⟨by rw[zea];exact (ae HG).1,(ae HG).2.drewN nq⟩)
 case measure =>(
 simp[intOf]
 have:=Nat.mod_lt p (Nat.pos_of_ne_zero h0)
 omega))))
 ·(
 have hmB:m<18446744073709551616:=zam m (by omega)
 have PA:=af (zbp _ m wr s1 hmB)
 have PB:=af (zbp _ gk wr s2 hkB)
 have START:Hid (Nat.gcd m gk=Nat.gcd M N∧But [] w wr):=⟨hg,hB⟩
 obtain⟨a1,c1,rfl,-,-⟩:=s1
 obtain⟨a2,c2,rfl,-,-⟩:=s2
 clear hg hB hm hk
 generalize (wd 4294967296 m).length=n1 at *
 generalize (wd 4294967296 gk).length=n2 at *
 have n0:((n2:Int)==0)=false:=beq_eq_false_iff_ne.2 (by omega)
 go_wp2_with fail
 refine (ae PA).mono ?_
 rintro e w3 ⟨rfl,hw⟩
 obtain rfl:=hw.symm
 clear hw
 go_wp2_with fail
 refine (ae PB).mono ?_
 rintro e w3 ⟨rfl,hw⟩
 obtain rfl:=hw.symm
 clear hw PA PB
 go_wp2_with fail
 go_loopw [9,10] (fun x y w'=>∃ p q:Nat,x=.int .u64 p∧y=.int .u64 q∧p<18446744073709551616∧q<18446744073709551616∧Hid (Nat.gcd p q=Nat.gcd M N∧But [] w w')) (fun _ y _=>(intOf y).toNat)
 case atStart=>exact⟨m,gk,rfl,rfl,hmB,hkB,START⟩
 case round =>(
 clear START
 obtain⟨p,q,rfl,rfl,hp,hq,HG⟩:=hrel
 rename World=>wq
 by_cases h0:q=0
 ·(
 subst h0
 have hgg:=(ae HG).1
 rw[Nat.gcd_zero_right] at hgg
 have HGG:=af hgg
 clear hgg
 go_wp2_with fail
 refine (zbn p _ hp).mono ?_
 rintro e w' ⟨v',rfl,hs,hb1,-⟩
 rw[ae HGG] at hs
 have FIN:=af (And.intro hs ((ae HG).2.trans' hb1))
 clear hs hb1
 go_wp2
 go_ret
 exact⟨v',rfl,(ae FIN).1,(ae FIN).2⟩)
 ·(
 have hbq:((q:Int)==0)=false:=by simp;exact h0
 have hlt:0<q:=Nat.pos_of_ne_zero h0
 go_wp2
 go_quiet (fail)
 go_roundw
 case rel =>(
 refine⟨_,_,_,_,_,_,_,_,⟨q,p%q,rfl,?_,hq,?_,?_⟩,rfl⟩
 ·rw[Int.natCast_emod]
 ·exact Nat.lt_trans (Nat.mod_lt _ (Nat.pos_of_ne_zero h0)) hq
 ·exact⟨by rw[zea];exact (ae HG).1,(ae HG).2.drewN nq⟩)
 case measure =>(
 simp[intOf]
 have:=Nat.mod_lt p (Nat.pos_of_ne_zero h0)
 omega))))))))
theorem Slot.drew {w:World} {b o:Nat} (h:Slot w b o):Slot w.drew b o:=⟨h.c0,h.c1,h.f0,h.f1⟩
structure zw (w:World) (b:Nat) (p q:Int):Prop where
 up:zh w b 0 p
 low:zh w b 2 q
 sa:Slot w b 0
 sb:Slot w b 2
theorem zw.but {w w':World} {b:Nat} {p q:Int} (h:zw w b p q) (hb:But [] w w'):zw w' b p q :=
 ⟨h.up.but hb,h.low.but hb,h.sa.but hb (by simp),h.sb.but hb (by simp)⟩
theorem zw.drew {w:World} {b:Nat} {p q:Int} (h:zw w b p q):zw w.drew b p q:=⟨h.up,h.low,h.sa.drew,h.sb.drew⟩
theorem zw.lt {w:World} {b:Nat} {p q:Int} (h:zw w b p q):b<w.heap.size:=h.sa.lt
theorem Sl.zrx {w:World} {v:Value} {n:Nat} (h:Sl .u32 w v (wd 4294967296 n)) (hn:0<n) (hl:(wd 4294967296 n).length<8388608) :
   ∃ b off l cap,v=.slice (some ⟨b,off,none⟩) l cap∧w.cell? ⟨b,off,none⟩=some (.int .u32 (n%4294967296:Nat))∧((l=1∧n<4294967296)∨((2≤l∧l<8388608)∧4294967296≤n)):=by(
 rcases h.open with ⟨e,-⟩|⟨h0,b,off,cap,rfl,-,-,hc⟩
 ·rw[wh (by omega)] at e;omega
 ·(
 have c0:=hc 0 h0
 rw[zbr (by omega) hn] at c0
 simp only[List.getElem?_cons_zero,Option.getD_some,Nat.add_zero] at c0
 refine⟨b,off,_,cap,rfl,c0,?_⟩
 rcases Nat.lt_or_ge n 4294967296 with h1 | h1
 ·have:=aj (B:=4294967296) (by omega) n 1 (by simpa using h1)
  exact .inl ⟨by omega,h1⟩
 ·(
 refine .inr ⟨⟨?_,hl⟩,h1⟩
 rcases Nat.lt_or_ge (wd 4294967296 n).length 2 with h2 | h2
 ·have:=ak (B:=4294967296) (by omega) n 1 (by omega)
  simp at this
  omega
 ·exact h2)))
theorem qff (m n:Nat) (hn:0<n) (hl:(wd 4294967296 n).length<8388608):(wd 4294967296 (Nat.gcd m n)).length<8388608 :=
 Nat.lt_of_le_of_lt (aj (by omega) _ _ (Nat.lt_of_le_of_lt (Nat.gcd_le_right _ hn) (ak (by omega) n _ (Nat.le_refl _)))) hl
def zdg (p:Int) (n:Nat):Int:=if p<0 then -((p.natAbs/Nat.gcd p.natAbs n:Nat):Int) else ((p.natAbs/Nat.gcd p.natAbs n:Nat):Int)
def zdh (p:Int) (n:Nat):Int:=((n/Nat.gcd p.natAbs n:Nat):Int)
theorem zzg (n:Nat):zdg 0 n=0:=by simp[zdg]
theorem zzh (n:Nat) (h:0<n):zdh 0 n=1:=by simp[zdh,Nat.div_self h]
theorem zmi (p:Int) (n:Nat) (h:Nat.gcd p.natAbs n=1):zdg p n=p:=by rw[zdg,h];split <;> simp <;> omega
theorem zmj (p:Int) (n:Nat) (h:Nat.gcd p.natAbs n=1):zdh p n=n:=by rw[zdh,h];simp
theorem zsl (p:Int) (n:Nat):(zdg p n).natAbs=p.natAbs/Nat.gcd p.natAbs n:=by(
 rw[zdg]
 generalize p.natAbs/Nat.gcd p.natAbs n=k
 split <;> omega)
theorem qcv (p:Int) (n:Nat):decide (zdg p n<0)=decide (p<0):=by(
 rw[zdg]
 by_cases h:p<0
 ·have:0<p.natAbs/Nat.gcd p.natAbs n:=Nat.div_pos (Nat.gcd_le_left _ (by omega)) (Nat.gcd_pos_of_pos_left _ (by omega))
  generalize p.natAbs/Nat.gcd p.natAbs n=k at *
  rw[if_pos h,decide_eq_true h,decide_eq_true]
  omega
 ·generalize p.natAbs/Nat.gcd p.natAbs n=k
  rw[if_neg h,decide_eq_false h,decide_eq_false]
  omega)
theorem zzi {w:World} {b:Nat} {p:Int} {n g:Nat} (h:zw w b p (n:Int)) (hg:Nat.gcd p.natAbs n=g) (v1 v2:Value) (h1:Sl .u32 w v1 (wd 4294967296 (p.natAbs/g))) (h2:Sl .u32 w v2 (wd 4294967296 (n/g))) :
   zw ((w.setCell ⟨b,1,none⟩ v1).setCell ⟨b,3,none⟩ v2) b (zdg p n) (zdh p n):=by(
 obtain⟨⟨a0,va,a1,hva⟩,⟨b0,vb,b1,hvb⟩,sa,sb⟩:=h
 obtain⟨x1,x2,x3,a1'⟩:=sa.c1
 obtain⟨y1,y2,y3,b1'⟩:=sb.c1
 simp only[Nat.zero_add] at a1 a1'
 simp only[Nat.reduceAdd] at b1 b1'
 have o1:∀ v,(w.setCell ⟨b,1,none⟩ v).cell? ⟨b,3,none⟩=w.cell? ⟨b,3,none⟩:=fun v=>World.cell?_setCell_other _ _ _ _ (by simp)
 have tr:∀ {v xs},Sl .u32 w v xs→Sl .u32 ((w.setCell ⟨b,1,none⟩ v1).setCell ⟨b,3,none⟩ v2) v xs:=fun h =>
  (h.setCell ⟨b,1,none⟩ rfl v1 _ a1' (by simp)).setCell ⟨b,3,none⟩ rfl v2 (.slice y1 y2 y3) (by rw[o1];exact b1') (by simp)
 have c1:((w.setCell ⟨b,1,none⟩ v1).setCell ⟨b,3,none⟩ v2).cell? ⟨b,1,none⟩=some v1:=by
  rw[World.cell?_setCell_other _ _ _ _ (by simp)];exact World.cell?_setCell_same _ _ _ a1
 have c3:((w.setCell ⟨b,1,none⟩ v1).setCell ⟨b,3,none⟩ v2).cell? ⟨b,3,none⟩=some v2 :=
  World.cell?_setCell_same _ _ _ (u:=vb) (by rw[o1];exact b1)
 have c0:((w.setCell ⟨b,1,none⟩ v1).setCell ⟨b,3,none⟩ v2).cell? ⟨b,0,none⟩=w.cell? ⟨b,0,none⟩:=by
  rw[World.cell?_setCell_other _ _ _ _ (by simp),World.cell?_setCell_other _ _ _ _ (by simp)]
 have c2:((w.setCell ⟨b,1,none⟩ v1).setCell ⟨b,3,none⟩ v2).cell? ⟨b,2,none⟩=w.cell? ⟨b,2,none⟩:=by
  rw[World.cell?_setCell_other _ _ _ _ (by simp),World.cell?_setCell_other _ _ _ _ (by simp)]
 obtain⟨z1,z2,z3,e1⟩:=h1.slice
 obtain⟨u1,u2,u3,e2⟩:=h2.slice
 obtain⟨s0,hs0⟩:=sa.c0
 obtain⟨t0,ht0⟩:=sb.c0
 refine⟨⟨by rw[c0,a0,qcv],v1,c1,tr (by rw[zsl,hg];exact h1)⟩,⟨?_,v2,c3,tr (by rw[zdh,Int.natAbs_natCast,hg];exact h2)⟩,⟨⟨s0,by rw[c0];exact hs0⟩,⟨z1,z2,z3,by rw[← e1];exact c1⟩,by simp[sa.f0],by have:=sa.f1;simp at this ⊢;exact this⟩,⟨⟨t0,by rw[c2];exact ht0⟩,⟨u1,u2,u3,by rw[← e2];exact c3⟩,by simp[sb.f0],by have:=sb.f1;simp at this ⊢;exact this⟩⟩
 rw[c2,b0,zdh]
 rw[show decide ((n:Int)<0)=false from decide_eq_false (by omega),show decide (((n/Nat.gcd p.natAbs n:Nat):Int)<0)=false from decide_eq_false (Int.not_lt.2 (Int.natCast_nonneg _))])
theorem qaf (b:Nat) (p q:Int) (w:World) (h:zw w b p q) (hp:(wd 4294967296 p.natAbs).length<8388608) (hq:(wd 4294967296 q.natAbs).length<8388608) (hq0:q≠0) (N D:Int) (eN0:Hid (N=zdg (if q<0 then -p else p) q.natAbs)) (eD0:Hid (D=zdh p q.natAbs)) :
   Calls prog 152 #[.pointer (some ⟨b,0,none⟩)] w fun e w'=>e=.returned (.pointer (some ⟨b,0,none⟩))∧But [b] w w'∧zw w' b N D:=by(
 by_cases hneg:q<0
 case' pos =>(
 have h':=h
 obtain⟨⟨a0,va,a1,hva⟩,⟨b0,vb,b1,hvb⟩,sa,sb⟩:=h'
 simp only[Nat.zero_add] at a1
 simp only[Nat.reduceAdd] at b1
 obtain⟨bb,ob,lb,cb,rfl,cb0,hlb⟩:=hvb.zrx (by omega) hq
 have n0:((lb:Int)==0)=false:=by simp;omega
 have hlb1:1≤lb:=by omega
 clear hlb hvb hva
 have b0':w.cell? ⟨b,2,none⟩=some (.bool true):=by rw[b0,decide_eq_true hneg]
 clear b0
 go_enter func152,ntmps152
 go_wp2
 go_region_with (go_at_call 196;refine (zxy b 0 b 0 p _ ?_ ?_ (by omega)).mono ?_;exact h.sa.drew;exact h.up;rintro e W1 ⟨rfl,H1⟩;have H1':=af H1;clear H1)
 obtain⟨h1,B1⟩:zw W1 b (-p) q∧But [b] w W1:=by
  obtain⟨w1,v1,hb1,hv1,rfl⟩:=ae H1'
  have hw:=h.drew.but hb1
  obtain⟨aa,na,ca,rfl⟩:=hv1.slice
  exact⟨⟨zcp hw.sa _ _ hv1,dz hw.sa _ _ hw.low (by omega),zfa hw.sa _ _ _ _,yj _ _ hw.sb (by omega)⟩,((But.refl [b] w).drew.trans' hb1).trans (zcq ..) (by simp)⟩
 go_wp2
 go_region_with (go_at_call 196;refine (zxy b 2 b 2 q _ ?_ ?_ (by omega)).mono ?_;exact h1.sb.drew;exact h1.low;rintro e W ⟨rfl,H2⟩;have H2':=af H2;clear H2)
 obtain⟨hR,hB⟩:zw W b (-p) (-q)∧But [b] w W:=by
  obtain⟨w1,v1,hb1,hv1,rfl⟩:=ae H2'
  have hw:=h1.drew.but hb1
  obtain⟨aa,na,ca,rfl⟩:=hv1.slice
  exact⟨⟨dz hw.sb _ _ hw.up (by omega),zcp hw.sb _ _ hv1,yj _ _ hw.sa (by omega),zfa hw.sb _ _ _ _⟩,(B1.drew.trans' hb1).trans (zcq ..) (by simp)⟩
 clear H1' H2' h1 B1 a0 a1 b1 b0' sa sb h cb0 n0 hlb1
 obtain⟨p1,hp1⟩:∃ p1,p1=-p:=⟨_,rfl⟩
 obtain⟨n,hn⟩:∃ n:Nat,n=q.natAbs:=⟨_,rfl⟩
 have eN:Hid (N=zdg p1 n):=by show _=_;rw[ae eN0,if_pos hneg,hp1,hn]
 have eD:Hid (D=zdh p1 n):=by show _=_;rw[ae eD0,hn,hp1];simp[zdh]
 rw[← hp1,show -q=(n:Int) from by omega] at hR
 have hp64:(wd 4294967296 p1.natAbs).length<8388608:=by rw[hp1];first | exact hp | (rw[Int.natAbs_neg];exact hp)
 have hn64:(wd 4294967296 n).length<8388608:=by rw[hn];exact hq
 have hn0:0<n:=by omega
 clear hp hq hq0 hneg hp1 hn eN0 eD0)
 case' neg =>(
 obtain⟨n,hn⟩:∃ n:Nat,n=q.natAbs:=⟨_,rfl⟩
 obtain⟨p1,hp1⟩:∃ p1,p1=p:=⟨_,rfl⟩
 have eN:Hid (N=zdg p1 n):=by show _=_;rw[ae eN0,if_neg hneg,hp1,hn]
 have eD:Hid (D=zdh p1 n):=by show _=_;rw[ae eD0,hn,hp1]
 have hR:=h
 rw[← hp1,show q=(n:Int) from by omega] at hR
 have hp64:(wd 4294967296 p1.natAbs).length<8388608:=by rw[hp1];first | exact hp | (rw[Int.natAbs_neg];exact hp)
 have hn64:(wd 4294967296 n).length<8388608:=by rw[hn];exact hq
 have hn0:0<n:=by omega
 clear h hp hq hq0 hneg hp1 hn eN0 eD0
 refine (?_:∀ W,zw W b p1 n→But [b] w W→Calls prog 152 #[.pointer (some ⟨b,0,none⟩)] W fun e w'=>e=.returned (.pointer (some ⟨b,0,none⟩))∧But [b] w w'∧zw w' b N D) w hR (But.refl _ _)
 clear hR
 intro W hR hB
 go_enter func152,ntmps152)
 all_goals(
 have hR':=hR
 obtain⟨⟨a0,va,a1,hva⟩,⟨b0,vb,b1,hvb⟩,sa,sb⟩:=hR'
 simp only[Nat.zero_add] at a1
 simp only[Nat.reduceAdd] at b1
 rw[show decide ((n:Int)<0)=false from decide_eq_false (by omega)] at b0
 rw[Int.natAbs_natCast] at hvb
 have hvb':=hvb
 obtain⟨bb,ob,lb,cb,rfl,cb0,hlb⟩:=hvb'.zrx hn0 hn64
 have n0:((lb:Int)==0)=false:=by simp;omega
 by_cases hp0:p1=0
 ·(
 subst hp0
 simp only[Int.natAbs_zero,zo] at hva
 obtain⟨aa,ca,rfl,-,-⟩:=hva
 clear hlb hvb a0
 go_wp2_with fail
 refine (zhc b 2 1 _ (by omega) (by omega) sb).mono ?_
 rintro e W' ⟨rfl,H⟩
 have H':=af H
 clear H
 go_wp2
 go_ret
 rw[ae eN,ae eD,zzg,zzh n hn0]
 obtain⟨w1,v1,hb1,hv1,rfl⟩:=ae H'
 have hw:=hR.but hb1
 obtain⟨aa,na,ca,rfl⟩:=hv1.slice
 exact⟨rfl,(hB.trans' hb1).trans (zcq ..) (by simp),dz hw.sb _ _ hw.up (by omega),zcp hw.sb _ 1 hv1,yj _ _ hw.sa (by omega),zfa hw.sb _ _ _ _⟩)
 ·(
 have hva':=hva
 obtain⟨ba,oa,la,ca,rfl,ca0,hla⟩:=hva'.zrx (by omega) hp64
 have n0a:((la:Int)==0)=false:=by simp;omega
 clear ca0 hla
 by_cases hn1:n=1
 ·(
 subst hn1
 have hlb1:lb=1:=by omega
 subst hlb1
 simp only[Nat.reduceMod] at cb0
 clear hlb hva hvb
 go_wp2
 go_ret
 rw[ae eN,ae eD,zmi _ _ (Nat.gcd_one_right _),zmj _ _ (Nat.gcd_one_right _)]
 exact⟨rfl,hB,hR⟩)
 ·(
 have hlb1:1≤lb:=by omega
 rcases hlb with ⟨hl,hlb⟩|⟨hl,hlb⟩
 case' inl=>have t1:((lb:Int)==1)=true:=by rw[hl];rfl
 case' inr=>have t1:((lb:Int)==1)=false:=beq_eq_false_iff_ne.2 (by omega)
 all_goals(
 have hlb2:lb<8388608:=by omega
 clear hl
 have g1:(((n%4294967296:Nat):Int)==1)=decide (n%4294967296=1):=by rw[Bool.eq_iff_iff];simp;omega
 go_wp2
 go_region_held (fun w'=>w'.cell? ⟨b,1,none⟩=some (.slice (some ⟨ba,oa,none⟩) la ca)∧w'.cell? ⟨b,3,none⟩=some (.slice (some ⟨bb,ob,none⟩) lb cb)) (go_keep) ((go_at_call 197;refine (zuh _ _ p1.natAbs n _ ?_ ?_ hp64 hn64).mono ?_;exact hva;exact hvb;rintro e wg ⟨vg,rfl,hvg,hbg⟩;have hbW:But [] W wg:=(by first | exact hbg | exact (But.refl _ _).drew.trans' hbg);have k1:=hbW.ag a1 (by simp);have k3:=hbW.ag b1 (by simp)))
 have hRg:=hR.but hbW
 have hG0:0<Nat.gcd p1.natAbs n:=Nat.gcd_pos_of_pos_right _ hn0
 have hG64:=qff p1.natAbs n hn0 hn64
 have hvag:=hva.ah hbW
 have hvbg:=hvb.ah hbW
 have hvg':=hvg
 obtain⟨bg,og,lg,cg,rfl,cg0,hlg⟩:=hvg'.zrx hG0 hG64
 have hBg:But [b] w wg:=hB.trans' hbW
 clear a0 a1 b0 b1 sa sb cb0 hva hvb hbg hbW
 have hlg1:1≤lg:=by omega
 by_cases hg1:Nat.gcd p1.natAbs n=1
 ·(
 rw[hg1] at cg0
 simp only[Nat.reduceMod] at cg0
 have t2:((lg:Int)==1)=true:=by simp;omega
 clear hlg hvg hvag hvbg hG0 hG64
 go_wp2
 go_ret
 rw[ae eN,ae eD,zmi _ _ hg1,zmj _ _ hg1]
 exact⟨rfl,hBg,hRg⟩)
 ·(
 rcases hlg with ⟨hl,hlg⟩|⟨hl,hlg⟩
 case' inl=>have t2:((lg:Int)==1)=true:=by rw[hl];rfl
 case' inr=>have t2:((lg:Int)==1)=false:=beq_eq_false_iff_ne.2 (by omega)
 all_goals(
 have g2:(((Nat.gcd p1.natAbs n%4294967296:Nat):Int)==1)=decide (Nat.gcd p1.natAbs n%4294967296=1):=by rw[Bool.eq_iff_iff];simp;omega
 generalize hgd:Nat.gcd p1.natAbs n=g at *
 have HG:=af hgd
 clear hgd
 clear hl
 have C1:=af k1
 have C3:=af k3
 go_wp2_with fail
 refine (zid _ _ p1.natAbs g wg hvag hvg hG0 hp64 hG64).mono ?_
 rintro e w1 ⟨q1,r1,rfl,hq1,hr1,hb1⟩
 have l3:=hb1.ag (ae C3) (by simp)
 go_wp2_with fail
 refine (zid _ _ n g w1 (hvbg.ah hb1) (hvg.ah hb1) hG0 hn64 hG64).mono ?_
 rintro e w2 ⟨q2,r2,rfl,hq2,hr2,hb2⟩
 obtain⟨z1,z2,z3,rfl⟩:=hq1.slice
 obtain⟨u1,u2,u3,rfl⟩:=hq2.slice
 have hR2:=(hRg.but hb1).but hb2
 have m1:=hb2.ag (hb1.ag (ae C1) (by simp)) (by simp)
 have m3:=hb2.ag l3 (by simp)
 have f1:=hR2.sa.f1
 have f3:=hR2.sb.f1
 simp only[Nat.zero_add] at f1
 simp only[Nat.reduceAdd] at f3
 go_wp2
 go_ret
 rw[ae eN,ae eD]
 exact⟨rfl,(((hBg.trans' hb1).trans' hb2).setCell (by simp) _).setCell (by simp) _,zzi hR2 (ae HG) _ _ (hq1.ah hb2) hq2⟩)))))))
theorem zxr {w w1:World} {t:TypeId} {z:Int} {v:Value} (hb:But [] (w.alloc (.cells #[.bool false,.slice none 0 0] t)) w1) (hv:Sl .u32 w1 v (wd 4294967296 z.natAbs)) :
   But [] w (sj w1 w.heap.size 0 v (decide (z<0)))∧zh (sj w1 w.heap.size 0 v (decide (z<0))) w.heap.size 0 z∧Slot (sj w1 w.heap.size 0 v (decide (z<0))) w.heap.size 0∧w.heap.size<(sj w1 w.heap.size 0 v (decide (z<0))).heap.size:=by(
 have hs:=(jq w t).but hb (by simp)
 obtain⟨a,n,c,rfl⟩:=hv.slice
 exact⟨(((But.refl [] w).alloc _).trans' hb).trans (zcq ..) (by simp),zcp hs _ _ hv,zfa hs _ _ _ _,by rw[zga];exact hs.lt⟩)
theorem qcw {w:World} {b:Nat} {p q:Int} (h0:Slot w b 0) (h2:Slot w b 2) (x1 y1:Option Addr) (x2 x3 y2 y3:Nat) (hp:Sl .u32 w (.slice x1 x2 x3) (wd 4294967296 p.natAbs)) (hq:Sl .u32 w (.slice y1 y2 y3) (wd 4294967296 q.natAbs)) :
   zw ((((w.setCell ⟨b,0,none⟩ (.bool (decide (p<0)))).setCell ⟨b,1,none⟩ (.slice x1 x2 x3)).setCell ⟨b,2,none⟩ (.bool (decide (q<0)))).setCell ⟨b,3,none⟩ (.slice y1 y2 y3)) b p q:=by(
 obtain⟨⟨s0,c0⟩,⟨a1,a2,a3,c1⟩,f0,f1⟩:=h0
 obtain⟨⟨s2,c2⟩,⟨b1,b2,b3,c3⟩,f2,f3⟩:=h2
 simp only[Nat.zero_add] at c1 f1
 simp only[Nat.reduceAdd] at c3 f3
 have k1:(w.setCell ⟨b,0,none⟩ (.bool (decide (p<0)))).cell? ⟨b,1,none⟩=some (.slice a1 a2 a3):=by rw[World.cell?_setCell_other _ _ _ _ (by simp)];exact c1
 have k2:((w.setCell ⟨b,0,none⟩ (.bool (decide (p<0)))).setCell ⟨b,1,none⟩ (.slice x1 x2 x3)).cell? ⟨b,2,none⟩=some (.bool s2):=by
  rw[World.cell?_setCell_other _ _ _ _ (by simp),World.cell?_setCell_other _ _ _ _ (by simp)];exact c2
 have k3:(((w.setCell ⟨b,0,none⟩ (.bool (decide (p<0)))).setCell ⟨b,1,none⟩ (.slice x1 x2 x3)).setCell ⟨b,2,none⟩ (.bool (decide (q<0)))).cell? ⟨b,3,none⟩=some (.slice b1 b2 b3):=by
  rw[World.cell?_setCell_other _ _ _ _ (by simp),World.cell?_setCell_other _ _ _ _ (by simp),World.cell?_setCell_other _ _ _ _ (by simp)];exact c3
 have tr:∀ {v xs},Sl .u32 w v xs→Sl .u32 ((((w.setCell ⟨b,0,none⟩ (.bool (decide (p<0)))).setCell ⟨b,1,none⟩ (.slice x1 x2 x3)).setCell ⟨b,2,none⟩ (.bool (decide (q<0)))).setCell ⟨b,3,none⟩ (.slice y1 y2 y3)) v xs:=fun h =>
  (((h.setCell _ rfl _ _ c0 (by simp)).setCell _ rfl _ _ k1 (by simp)).setCell _ rfl _ _ k2 (by simp)).setCell _ rfl _ _ k3 (by simp)
 have e0:((((w.setCell ⟨b,0,none⟩ (.bool (decide (p<0)))).setCell ⟨b,1,none⟩ (.slice x1 x2 x3)).setCell ⟨b,2,none⟩ (.bool (decide (q<0)))).setCell ⟨b,3,none⟩ (.slice y1 y2 y3)).cell? ⟨b,0,none⟩=some (.bool (decide (p<0))):=by
  rw[World.cell?_setCell_other _ _ _ _ (by simp),World.cell?_setCell_other _ _ _ _ (by simp),World.cell?_setCell_other _ _ _ _ (by simp)];exact World.cell?_setCell_same _ _ _ c0
 have e1:((((w.setCell ⟨b,0,none⟩ (.bool (decide (p<0)))).setCell ⟨b,1,none⟩ (.slice x1 x2 x3)).setCell ⟨b,2,none⟩ (.bool (decide (q<0)))).setCell ⟨b,3,none⟩ (.slice y1 y2 y3)).cell? ⟨b,1,none⟩=some (.slice x1 x2 x3):=by
  rw[World.cell?_setCell_other _ _ _ _ (by simp),World.cell?_setCell_other _ _ _ _ (by simp)];exact World.cell?_setCell_same _ _ _ k1
 have e2:((((w.setCell ⟨b,0,none⟩ (.bool (decide (p<0)))).setCell ⟨b,1,none⟩ (.slice x1 x2 x3)).setCell ⟨b,2,none⟩ (.bool (decide (q<0)))).setCell ⟨b,3,none⟩ (.slice y1 y2 y3)).cell? ⟨b,2,none⟩=some (.bool (decide (q<0))):=by
  rw[World.cell?_setCell_other _ _ _ _ (by simp)];exact World.cell?_setCell_same _ _ _ k2
 have e3:((((w.setCell ⟨b,0,none⟩ (.bool (decide (p<0)))).setCell ⟨b,1,none⟩ (.slice x1 x2 x3)).setCell ⟨b,2,none⟩ (.bool (decide (q<0)))).setCell ⟨b,3,none⟩ (.slice y1 y2 y3)).cell? ⟨b,3,none⟩=some (.slice y1 y2 y3) :=
  World.cell?_setCell_same _ _ _ k3
 exact⟨⟨e0,_,e1,tr hp⟩,⟨e2,_,e3,tr hq⟩,⟨⟨_,e0⟩,⟨_,_,_,e1⟩,by simp only[World.frozen?_setCell];exact f0,by simp only[World.frozen?_setCell];exact f1⟩,⟨⟨_,e2⟩,⟨_,_,_,e3⟩,by simp only[World.frozen?_setCell];exact f2,by simp only[World.frozen?_setCell];exact f3⟩⟩)
theorem dh (zb ab ao bb bo:Nat) (p q:Int) (w:World) (hz0:Slot w zb 0) (hz2:Slot w zb 2) (ha:zh w ab ao p) (hb:zh w bb bo q) (hp:(wd 4294967296 p.natAbs).length<8388608) (hq:(wd 4294967296 q.natAbs).length<8388608) (hq0:q≠0) (N D:Int) (eN0:Hid (N=zdg (if q<0 then -p else p) q.natAbs)) (eD0:Hid (D=zdh p q.natAbs)) :
   Calls prog 67 #[.pointer (some ⟨zb,0,none⟩),.pointer (some ⟨ab,ao,none⟩),.pointer (some ⟨bb,bo,none⟩)] w fun e w'=>e=.returned (.pointer (some ⟨zb,0,none⟩))∧But [zb] w w'∧zw w' zb N D:=by(
 have hb':=hb
 obtain⟨b0,vb,b1,hvb⟩:=hb'
 obtain⟨bx,ox,lb,cb,rfl,cb0,hlb⟩:=hvb.zrx (by omega) hq
 have n0:((lb:Int)==0)=false:=by simp;omega
 clear hlb cb0 hvb b0
 go_enter func67,ntmps67
 go_wp2_with fail
 refine (zxl w.heap.size 0 ab ao p _ (jq _ _) (ha.but ((But.refl _ _).alloc _)) (by omega)).mono ?_
 rintro e W1 ⟨rfl,H⟩
 obtain⟨B1,I1,S1,L1⟩:But [] w W1∧zh W1 w.heap.size 0 p∧Slot W1 w.heap.size 0∧w.heap.size<W1.heap.size:=by
  obtain⟨w1,v,hbb,hv,rfl⟩:=H
  exact zxr hbb hv
 clear H
 go_wp2_with fail
 refine (zxl W1.heap.size 0 bb bo q _ (jq _ _) ((hb.but B1).but ((But.refl _ _).alloc _)) (by omega)).mono ?_
 rintro e W2 ⟨rfl,H⟩
 obtain⟨B2,I2,S2,L2⟩:But [] W1 W2∧zh W2 W1.heap.size 0 q∧Slot W2 W1.heap.size 0∧W1.heap.size<W2.heap.size:=by
  obtain⟨w1,v,hbb,hv,rfl⟩:=H
  exact zxr hbb hv
 clear H
 have B12:=B1.trans' B2
 have I1':=I1.but B2
 have z0:=hz0.but B12 (by simp)
 have z2:=hz2.but B12 (by simp)
 obtain⟨i0,vi,i1,hvi⟩:=I1'
 obtain⟨j0,vj,j1,hvj⟩:=I2
 simp only[Nat.zero_add] at i1 j1
 obtain⟨x1,x2,x3,rfl⟩:=hvi.slice
 obtain⟨y1,y2,y3,rfl⟩:=hvj.slice
 have zlt:zb<w.heap.size:=hz0.lt
 obtain⟨s0,hc0⟩:=z0.c0
 obtain⟨m1,m2,m3,hc1⟩:=z0.c1
 obtain⟨s2,hc2⟩:=z2.c0
 obtain⟨k1,k2,k3,hc3⟩:=z2.c1
 have f0:=z0.f0
 have f1:=z0.f1
 have f2:=z2.f0
 have f3:=z2.f1
 simp only[Nat.zero_add] at hc1 f1
 simp only[Nat.reduceAdd] at hc3 f3
 have ne1:zb≠w.heap.size:=by omega
 have ne2:zb≠W1.heap.size:=by omega
 have hR:=qcw z0 z2 x1 y1 x2 x3 y2 y3 hvi hvj
 have hRR:=af hR
 clear hR
 go_wp2_with fail
 refine (qaf zb p q _ (ae hRR) hp hq hq0 N D eN0 eD0).mono ?_
 rintro e w' ⟨rfl,hbn,hr⟩
 go_wp2
 go_ret
 exact⟨rfl,(((((B12.of_nil (l:=[zb])).setCell (by simp) _).setCell (by simp) _).setCell (by simp) _).setCell (by simp) _).trans hbn (by simp),hr⟩)
theorem zby (w:World) (t:TypeId):Slot (w.alloc (.cells #[.bool false,.slice none 0 0,.bool false,.slice none 0 0] t)) w.heap.size 0∧Slot (w.alloc (.cells #[.bool false,.slice none 0 0,.bool false,.slice none 0 0] t)) w.heap.size 2 :=
 ⟨⟨⟨false,by simp⟩,⟨none,0,0,by simp⟩,by simp,by simp⟩,⟨⟨false,by simp⟩,⟨none,0,0,by simp⟩,by simp,by simp⟩⟩
theorem zkz (zb:Nat) (x:Int) (w:World) (h1:-9223372036854775808≤x) (h2:x<9223372036854775808) (hz0:Slot w zb 0) (hz2:Slot w zb 2) :
   Calls prog 81 #[.pointer (some ⟨zb,0,none⟩),.int .i64 x] w fun e w'=>e=.returned (.pointer (some ⟨zb,0,none⟩))∧But [zb] w w'∧zw w' zb x 1:=by(
 go_enter func81,ntmps81
 go_wp2_with fail
 refine (zak x _ h1 h2).mono ?_
 rintro e w1 ⟨rfl,B1,I1,S1⟩
 go_wp2_with fail
 refine (zak 1 _ (by omega) (by omega)).mono ?_
 rintro e w2 ⟨rfl,B2,I2,S2⟩
 go_wp2_with fail
 have B12:=B1.trans' B2
 refine (dh zb w.heap.size 0 w1.heap.size 0 x 1 _ (hz0.but B12 (by simp)) (hz2.but B12 (by simp)) (I1.but B2) I2 (by have:=dm x.natAbs (by omega);omega) (by have:=dm 1 (by omega);simpa using Nat.lt_of_le_of_lt this (by omega)) (by omega) x 1 ?_ ?_).mono ?_
 ·show x=_
  rw[if_neg (by omega)]
  exact (zmi x 1 (Nat.gcd_one_right _)).symm
 ·show (1:Int)=_
  exact (zmj x 1 (Nat.gcd_one_right _)).symm
 rintro e w3 ⟨rfl,B3,R3⟩
 go_wp2
 go_ret
 exact⟨rfl,(B12.of_nil (l:=[zb])).trans B3 (by simp),R3⟩)
theorem zvn (x:Int) (w:World) (h1:-9223372036854775808≤x) (h2:x<9223372036854775808) :
   Calls prog 19 #[.int .i64 x] w fun e w'=>∃ zb,e=.returned (.pointer (some ⟨zb,0,none⟩))∧But [] w w'∧zw w' zb x 1:=by(
 go_enter func19,ntmps19
 go_wp2_with fail
 have hs:=zby w 113
 refine (zkz w.heap.size x _ h1 h2 hs.1 hs.2).mono ?_
 rintro e w3 ⟨rfl,B3,R3⟩
 go_wp2
 go_ret
 exact⟨w.heap.size,rfl,((But.refl _ _).alloc _).trans B3 (by simp),R3⟩)
theorem xg (b:Nat) (p:Int) (n:Nat) (w:World) (h:zw w b p n) (hn0:0<n) :
   Calls prog 83 #[.pointer (some ⟨b,0,none⟩)] w fun e w'=>e=.returned (.pointer (some ⟨b,2,none⟩))∧w'=w:=by(
 obtain⟨-,⟨-,vb,b1,hvb⟩,-,-⟩:=h
 simp only[Nat.reduceAdd] at b1
 have hl:(wd 4294967296 n).length≠0:=by rw[ne_eq,zq (by omega)];omega
 rw[Int.natAbs_natCast] at hvb
 obtain⟨a,cap,rfl,-,-⟩:=hvb
 have n0:(((wd 4294967296 n).length:Int)==0)=false:=by simp;intro h;simp[h] at hl
 generalize (wd 4294967296 n).length=l at *
 go_enter func83,ntmps83
 go_wp2
 go_ret
 exact⟨rfl,rfl⟩)
theorem ztq (b o:Nat) (z:Int) (w:World) (h:zh w b o z) (s:Int) (hs:Hid (s=z.sign)) (hl:(wd 4294967296 z.natAbs).length<2147483648) :
   Calls prog 114 #[.pointer (some ⟨b,o,none⟩)] w fun e w'=>e=.returned (.int .i64 s)∧w'=w:=by(
 obtain⟨b0,vb,b1,hvb⟩:=h
 have hz:=zq (B:=4294967296) (by omega) z.natAbs
 obtain⟨a,cap,rfl,-,-⟩:=hvb
 generalize (wd 4294967296 z.natAbs).length=l at *
 by_cases h0:z=0
 ·(
 have hl0:l=0:=by omega
 subst hl0
 clear hz
 have es:Hid (s=0):=by show _=_;rw[ae hs,h0];rfl
 clear h0 hs
 go_enter func114,ntmps114
 go_wp2
 go_ret
 exact⟨by rw[ae es];rfl,rfl⟩)
 ·(
 have n0:((l:Int)==0)=false:=by simp;omega
 clear hz
 by_cases h1:z<0
 ·(
 have es:Hid (s=-1):=by show _=_;rw[ae hs,Int.sign_eq_neg_one_of_neg h1]
 rw[decide_eq_true h1] at b0
 clear h0 h1 hs
 go_enter func114,ntmps114
 go_wp2
 go_ret
 exact⟨by rw[ae es];rfl,rfl⟩)
 ·(
 have es:Hid (s=1):=by show _=_;rw[ae hs,Int.sign_eq_one_of_pos (by omega)]
 rw[decide_eq_false h1] at b0
 clear h0 h1 hs
 go_enter func114,ntmps114
 go_wp2
 go_ret
 exact⟨by rw[ae es];rfl,rfl⟩)))
theorem zkb (b:Nat) (p q:Int) (w:World) (h:zw w b p q) (s:Int) (hs:Hid (s=p.sign)) (hl:(wd 4294967296 p.natAbs).length<2147483648) :
   Calls prog 44 #[.pointer (some ⟨b,0,none⟩)] w fun e w'=>e=.returned (.int .i64 s)∧w'=w:=by(
 go_enter func44,ntmps44
 go_wp2_with fail
 refine (ztq b 0 p _ h.up s hs hl).mono ?_
 rintro e w' ⟨rfl,hw⟩
 obtain rfl:=hw.symm
 go_wp2
 go_ret
 exact⟨rfl,rfl⟩)
theorem zza (w:World) (o:Obj) (t:TypeId):Slot ((w.alloc o).alloc (.cells #[.bool false,.slice none 0 0] t)) (w.heap.size+1) 0:=by
 have h:=jq (w.alloc o) t
 simpa using h
theorem zvd (w:World) (t:TypeId):Slot (w.alloc (.cells #[.bool false,.slice none 0 0] t)).drew w.heap.size 0:=(jq w t).drew
theorem ziu (w:World) (o:Obj) (t:TypeId):Slot ((w.alloc (.cells #[.bool false,.slice none 0 0] t)).alloc o).drew w.heap.size 0:=Slot.drew ((jq w t).but ((But.refl [] _).alloc o) (by simp))
theorem zit (w:World) (o:Obj) (t:TypeId):Slot ((w.alloc o).alloc (.cells #[.bool false,.slice none 0 0] t)).drew (w.heap.size+1) 0:=Slot.drew (zza w o t)
theorem zh.drew {w:World} {b o:Nat} {z:Int} (h:zh w b o z):zh w.drew b o z:=h
theorem je (A b1 o1 b2 o2:Nat) (x y z:Int) (hz:x*y=z) (w P:World) (hs:Slot P A 0) (hw:But [] w P) (hA:w.heap.size≤A) (hx:zh w b1 o1 x) (hy:zh w b2 o2 y) (hlx:(wd 4294967296 x.natAbs).length<8388608) (hly:(wd 4294967296 y.natAbs).length<8388608) (hlz:(wd 4294967296 z.natAbs).length<8388608) :
   Calls prog 85 #[.pointer (some ⟨A,0,none⟩),.pointer (some ⟨b1,o1,none⟩),.pointer (some ⟨b2,o2,none⟩)] P fun e W1=>e=.returned (.pointer (some ⟨A,0,none⟩))∧But [] w W1∧zh W1 A 0 z∧(∀ B,B≠A→Slot P B 0→Slot W1 B 0)∧(∀ b o z,b≠A→zh P b o z→zh W1 b o z)∧P.heap.size≤W1.heap.size:=by(
 have l1:=hx.lt
 have l2:=hy.lt
 refine (zms A 0 b1 o1 b2 o2 x y P hs (by omega) (by omega) (hx.but hw) (hy.but hw) (by omega) (by omega) (by rw[← Int.natAbs_mul,hz];omega)).mono ?_
 rintro e W1 ⟨rfl,w1,v,hb,hv,rfl⟩
 rw[hz] at hv ⊢
 have hs1:=hs.but hb (by simp)
 exact⟨rfl,(hw.trans' hb).trans (zcq ..) (by simp;exact hA),zcp hs1 _ _ hv,fun B hB hS=>yj _ _ (hS.but hb (by simp)) (.inl hB),fun b o z' hB hI=>dz hs1 _ _ (hI.but hb) (.inl hB),by rw[zga];exact hb.size⟩)
def sgU (s:Bool) (n:Nat):Int:=if s then -(n:Int) else (n:Int)
theorem zpq (z:Int):sgU (decide (z<0)) z.natAbs=z:=by(
 unfold sgU
 by_cases h:z<0
 ·rw[decide_eq_true h,if_pos rfl];omega
 ·rw[decide_eq_false h,if_neg (by simp)];omega)
theorem qhg (z:Int):sgU (!decide (z<0)) z.natAbs=-z:=by(
 unfold sgU
 by_cases h:z<0
 ·rw[decide_eq_true h];simp;omega
 ·rw[decide_eq_false h];simp;omega)
theorem zmb (s:Bool) (n:Nat) (z:Int) (h:z=sgU s n):z.natAbs=n∧(s && decide (0<(wd 4294967296 n).length))=decide (z<0):=by(
 have hl:=zq (B:=4294967296) (by omega) n
 subst h
 cases s
 ·refine⟨by simp[sgU],?_⟩
  rw[Bool.false_and,Bool.eq_iff_iff]
  simp[sgU]
 ·refine⟨by simp[sgU],?_⟩
  rw[Bool.true_and,Bool.eq_iff_iff]
  simp only[sgU,if_true,decide_eq_true_eq]
  omega)
theorem zru (xn yn:Bool) (va vb:Value) (X Y:Nat) (z:Int) (w:World) (ha:Sl .u32 w va (wd 4294967296 X)) (hb:Sl .u32 w vb (wd 4294967296 Y)) (hla:(wd 4294967296 X).length<8388608) (hlb:(wd 4294967296 Y).length<8388608) (hz:Hid (z=sgU xn X+sgU yn Y)) :
   Calls prog 154 #[.bool xn,va,.bool yn,vb] w fun e w'=>∃ s v,e=.returned (.tuple #[.bool s,v])∧Sl .u32 w' v (wd 4294967296 z.natAbs)∧But [] w w'∧(s && decide (0<(wd 4294967296 z.natAbs).length))=decide (z<0):=by(
 have CM:=af (zee va vb X Y w ha hb (by omega) (by omega))
 have HA:=af ha
 have HB:=af hb
 have AD:=af (qgl va vb X Y w ha hb (by omega) (by omega))
 have S1:Hid (Y≤X→∀ W,But [] w W→Calls prog 200 #[va,vb] W fun e w'=>∃ v',e=.returned v'∧Sl .u32 w' v' (wd 4294967296 (X-Y))∧But [] W w'):=fun h W hW=>(zrv va vb X Y W (ha.ah hW) (hb.ah hW) (by omega) h).mono fun e w' ⟨v',h1,h2,h3,_⟩=>⟨v',h1,h2,h3⟩
 have S2:Hid (X≤Y→∀ W,But [] w W→Calls prog 200 #[vb,va] W fun e w'=>∃ v',e=.returned v'∧Sl .u32 w' v' (wd 4294967296 (Y-X))∧But [] W w'):=fun h W hW=>(zrv vb va Y X W (hb.ah hW) (ha.ah hW) (by omega) h).mono fun e w' ⟨v',h1,h2,h3,_⟩=>⟨v',h1,h2,h3⟩
 obtain⟨a1,c1,rfl,-,-⟩:=ha
 obtain⟨a2,c2,rfl,-,-⟩:=hb
 generalize (wd 4294967296 X).length=l1 at *
 generalize (wd 4294967296 Y).length=l2 at *
 by_cases hs:xn=yn
 ·(
 subst hs
 have FS:=af (zmb xn (X+Y) z (by rw[ae hz];unfold sgU;split <;> omega))
 clear hz
 go_enter func154,ntmps154
 go_wp2_with fail
 refine (ae AD).mono ?_
 rintro e w1 ⟨v1,rfl,hv1,hb1,-⟩
 have FIN:=af (And.intro hv1 hb1)
 clear hv1 hb1
 go_wp2
 go_ret2
 refine⟨xn,v1,rfl,?_,(ae FIN).2,?_⟩
 ·rw[(ae FS).1];exact (ae FIN).1
 ·rw[(ae FS).1];exact (ae FS).2)
 ·(
 have hbe:(xn==yn)=false:=by simp[hs]
 have hyn:yn=!xn:=by cases xn <;> cases yn <;> simp_all
 rcases Nat.lt_or_ge X Y with hlt | hge
 ·(
 have FS:=af (zmb yn (Y-X) z (by rw[ae hz,hyn];unfold sgU;cases xn <;> simp <;> omega))
 rw[u6 hlt] at CM
 clear hz hyn
 go_enter func154,ntmps154
 go_wp2_with fail
 refine (ae CM).mono ?_
 rintro e w1 ⟨rfl,q,rfl⟩
 go_wp2_with fail
 refine (ae S2 (Nat.le_of_lt hlt) _ ((But.refl _ _).drewN q)).mono ?_
 rintro e w2 ⟨v1,rfl,hv1,hb1⟩
 have FIN:=af (And.intro hv1 (((But.refl [] w).drewN q).trans' hb1))
 clear hv1 hb1
 go_wp2
 go_ret2
 refine⟨yn,v1,rfl,?_,(ae FIN).2,?_⟩
 ·rw[(ae FS).1];exact (ae FIN).1
 ·rw[(ae FS).1];exact (ae FS).2)
 ·(
 have FS:=af (zmb xn (X-Y) z (by rw[ae hz,hyn];unfold sgU;cases xn <;> simp <;> omega))
 have hc0:=zbl hge
 generalize zy X Y=r at *
 have hr:decide (0≤r)=true:=by simp;exact hc0
 clear hz hyn
 go_enter func154,ntmps154
 go_wp2_with fail
 refine (ae CM).mono ?_
 rintro e w1 ⟨rfl,q,rfl⟩
 go_wp2_with fail
 refine (ae S1 hge _ ((But.refl _ _).drewN q)).mono ?_
 rintro e w2 ⟨v1,rfl,hv1,hb1⟩
 have FIN:=af (And.intro hv1 (((But.refl [] w).drewN q).trans' hb1))
 clear hv1 hb1
 go_wp2
 go_ret2
 refine⟨xn,v1,rfl,?_,(ae FIN).2,?_⟩
 ·rw[(ae FS).1];exact (ae FIN).1
 ·rw[(ae FS).1];exact (ae FS).2)))
theorem zku (b o b1 o1 b2 o2:Nat) (x y z:Int) (w:World) (hs:Slot w b o) (hne1:b≠b1) (hne2:b≠b2) (hx:zh w b1 o1 x) (hy:zh w b2 o2 y) (hlx:(wd 4294967296 x.natAbs).length<8388608) (hly:(wd 4294967296 y.natAbs).length<8388608) (hlz:(wd 4294967296 z.natAbs).length<2147483648) (hz:Hid (z=x+y)) :
   Calls prog 68 #[.pointer (some ⟨b,o,none⟩),.pointer (some ⟨b1,o1,none⟩),.pointer (some ⟨b2,o2,none⟩)] w fun e w'=>e=.returned (.pointer (some ⟨b,o,none⟩))∧∃ w1 v,But [] w w1∧Sl .u32 w1 v (wd 4294967296 z.natAbs)∧w'=sj w1 b o v (decide (z<0)):=by(
 obtain⟨h0,v0,h1,hv⟩:=hx
 obtain⟨g0,u0,g1,hu⟩:=hy
 have SM:=af (fun W (h8:Sl .u32 W v0 (wd 4294967296 x.natAbs)) (h9:Sl .u32 W u0 (wd 4294967296 y.natAbs))=>zru (decide (x<0)) (decide (y<0)) v0 u0 x.natAbs y.natAbs z W h8 h9 hlx hly (by show _=_;rw[zpq,zpq];exact ae hz))
 generalize hsx:decide (x<0)=sx at h0 SM
 generalize hsy:decide (y<0)=sy at g0 SM
 clear hsx hsy hz
 go_enter func68,ntmps68
 go_wp2
 go_region_held (fun w'=>w'.cell? ⟨b1,o1,none⟩=some (.bool sx)∧w'.cell? ⟨b1,o1+1,none⟩=some v0∧w'.cell? ⟨b2,o2,none⟩=some (.bool sy)∧w'.cell? ⟨b2,o2+1,none⟩=some u0) (go_keep) (first
  | (go_at_call 154;refine (ae SM _ ?_ ?_).mono ?_;exact hv;exact hu;rintro e w1 ⟨s1,v,rfl,hv1,hb,hsg⟩;have hb0:But [] w w1:=(by first | exact hb | exact (But.refl _ _).drew.trans' hb | exact ((But.refl _ _).drewN _).trans' hb);have k0:=hb0.ag h0 (by simp);have k1:=hb0.ag h1 (by simp);have k2:=hb0.ag g0 (by simp);have k3:=hb0.ag g1 (by simp))
  | (go_at_call 153;(obtain⟨⟨s0,hc0⟩,⟨a0,n0,c0,hc1⟩,f0,f1⟩:=hs.but hb0 (by simp));refine (zcc b o _ v _ (.bool s0) (.slice a0 n0 c0) _ hv1 hlz hc0 hc1 f0 f1).mono ?_;rintro e w2 ⟨rfl,rfl⟩))
 all_goals go_wp2
 all_goals go_ret
 all_goals refine⟨rfl,w1,v,hb0,hv1,?_⟩
 all_goals (rw[← hsg];rfl))
theorem ztp (b o b1 o1 b2 o2:Nat) (x y z:Int) (w:World) (hs:Slot w b o) (hne1:b≠b1) (hne2:b≠b2) (hx:zh w b1 o1 x) (hy:zh w b2 o2 y) (hlx:(wd 4294967296 x.natAbs).length<8388608) (hly:(wd 4294967296 y.natAbs).length<8388608) (hlz:(wd 4294967296 z.natAbs).length<2147483648) (hz:Hid (z=x-y)) :
   Calls prog 194 #[.pointer (some ⟨b,o,none⟩),.pointer (some ⟨b1,o1,none⟩),.pointer (some ⟨b2,o2,none⟩)] w fun e w'=>e=.returned (.pointer (some ⟨b,o,none⟩))∧∃ w1 v,But [] w w1∧Sl .u32 w1 v (wd 4294967296 z.natAbs)∧w'=sj w1 b o v (decide (z<0)):=by(
 obtain⟨h0,v0,h1,hv⟩:=hx
 obtain⟨g0,u0,g1,hu⟩:=hy
 have SM:=af (fun W (h8:Sl .u32 W v0 (wd 4294967296 x.natAbs)) (h9:Sl .u32 W u0 (wd 4294967296 y.natAbs))=>zru (decide (x<0)) (!decide (y<0)) v0 u0 x.natAbs y.natAbs z W h8 h9 hlx hly (by show _=_;rw[zpq,qhg,ae hz];omega))
 generalize hsx:decide (x<0)=sx at h0 SM
 generalize hsy:decide (y<0)=sy at g0 SM
 clear hsx hsy hz
 go_enter func194,ntmps194
 go_wp2
 go_region_held (fun w'=>w'.cell? ⟨b1,o1,none⟩=some (.bool sx)∧w'.cell? ⟨b1,o1+1,none⟩=some v0∧w'.cell? ⟨b2,o2,none⟩=some (.bool sy)∧w'.cell? ⟨b2,o2+1,none⟩=some u0) (go_keep) (first
  | (go_at_call 154;refine (ae SM _ ?_ ?_).mono ?_;exact hv;exact hu;rintro e w1 ⟨s1,v,rfl,hv1,hb,hsg⟩;have hb0:But [] w w1:=(by first | exact hb | exact (But.refl _ _).drew.trans' hb | exact ((But.refl _ _).drewN _).trans' hb);have k0:=hb0.ag h0 (by simp);have k1:=hb0.ag h1 (by simp);have k2:=hb0.ag g0 (by simp);have k3:=hb0.ag g1 (by simp))
  | (go_at_call 153;(obtain⟨⟨s0,hc0⟩,⟨a0,n0,c0,hc1⟩,f0,f1⟩:=hs.but hb0 (by simp));refine (zcc b o _ v _ (.bool s0) (.slice a0 n0 c0) _ hv1 hlz hc0 hc1 f0 f1).mono ?_;rintro e w2 ⟨rfl,rfl⟩))
 all_goals go_wp2
 all_goals go_ret
 all_goals refine⟨rfl,w1,v,hb0,hv1,?_⟩
 all_goals (rw[← hsg];rfl))
theorem qcx (zb xb yb:Nat) (x y:Int) (nx ny:Nat) (w:World) (hz0:Slot w zb 0) (hz2:Slot w zb 2) (hx:zw w xb x (nx:Int)) (hy:zw w yb y (ny:Int)) (hnx:0<nx) (hny:0<ny) (hxl:(wd 4294967296 x.natAbs).length<8388608) (hyl:(wd 4294967296 y.natAbs).length<8388608) (hnxl:(wd 4294967296 nx).length<8388608) (hnyl:(wd 4294967296 ny).length<8388608) (P Q:Int) (hP:x*(ny:Int)=P) (hQ:(nx:Int)*y=Q) (hPl:(wd 4294967296 P.natAbs).length<8388608) (hQl:(wd 4294967296 Q.natAbs).length<8388608) (hQ0:Q≠0) (N D:Int) (eN0:Hid (N=zdg (if Q<0 then -P else P) Q.natAbs)) (eD0:Hid (D=zdh P Q.natAbs)) :
   Calls prog 93 #[.pointer (some ⟨zb,0,none⟩),.pointer (some ⟨xb,0,none⟩),.pointer (some ⟨yb,0,none⟩)] w fun e w'=>e=.returned (.pointer (some ⟨zb,0,none⟩))∧But [zb] w w'∧zw w' zb N D:=by(
 have lx:=hx.lt
 have ly:=hy.lt
 have lz:=hz0.lt
 go_enter func93,ntmps93
 go_wp2
 go_region_with (first
  | (go_at_call_of 83 (Value.pointer (some ⟨yb,0,none⟩));refine (xg yb y ny _ ?_ hny).mono ?_;(refine hy.but ?_;repeat (first | assumption | exact But.refl _ _ | apply But.drew | apply But.alloc));rintro e w' ⟨rfl,rfl⟩)
  | (go_at_call_of 83 (Value.pointer (some ⟨xb,0,none⟩));refine (xg xb x nx _ ?_ hnx).mono ?_;(refine hx.but ?_;repeat (first | assumption | exact But.refl _ _ | apply But.drew | apply But.alloc));rintro e w' ⟨rfl,rfl⟩)
  | (go_at_call_of 85 (Value.pointer (some ⟨yb,2,none⟩));refine (je _ xb 0 yb 2 x (ny:Int) P hP w _ ?_ ?_ ?_ hx.up hy.low hxl (by rw[Int.natAbs_natCast];exact hnyl) hPl).mono ?_;(first | exact zvd _ _ | exact ziu _ _ _ | exact zit _ _ _);(repeat (first | assumption | exact But.refl _ _ | apply But.drew | apply But.alloc));omega;rintro e W1 ⟨rfl,KB1,KA1,KS1,KI1,KL1⟩)
  | (go_at_call_of 85 (Value.pointer (some ⟨xb,2,none⟩));refine (je _ xb 2 yb 0 (nx:Int) y Q hQ w _ ?_ ?_ ?_ hx.low hy.up (by rw[Int.natAbs_natCast];exact hnxl) hyl hQl).mono ?_;(first | exact jq _ _ | exact KS1 _ (by omega) (ziu _ _ _) | exact KS1 _ (by omega) (zit _ _ _));(repeat (first | assumption | exact But.refl _ _ | apply But.drew | apply But.alloc));(have:=KB1.size;omega);rintro e W2 ⟨rfl,KB2,KA2,KS2,KI2,KL2⟩)
  | (go_at_call 67;refine (dh zb _ 0 _ 0 P Q _ (hz0.but KB2 (by simp)) (hz2.but KB2 (by simp)) (KI2 _ _ _ ?_ ?_) KA2 hPl hQl hQ0 N D eN0 eD0).mono ?_;(have:=KA1.lt;omega);(refine KA1.but ?_;repeat (first | exact But.refl _ _ | apply But.drew | apply But.alloc));rintro e W3 ⟨rfl,KB3,KR3⟩))
 all_goals go_wp2
 all_goals go_ret
 all_goals exact⟨rfl,(KB2.of_nil (l:=[zb])).trans KB3 (by simp),KR3⟩)
theorem qfa (zb xb yb:Nat) (x y:Int) (nx ny:Nat) (w:World) (hz0:Slot w zb 0) (hz2:Slot w zb 2) (hx:zw w xb x (nx:Int)) (hy:zw w yb y (ny:Int)) (hnx:0<nx) (hny:0<ny) (hxl:(wd 4294967296 x.natAbs).length<8388608) (hyl:(wd 4294967296 y.natAbs).length<8388608) (hnxl:(wd 4294967296 nx).length<8388608) (hnyl:(wd 4294967296 ny).length<8388608) (P Q:Int) (hP:x*y=P) (hQ:(nx:Int)*(ny:Int)=Q) (hPl:(wd 4294967296 P.natAbs).length<8388608) (hQl:(wd 4294967296 Q.natAbs).length<8388608) (hQ0:Q≠0) (N D:Int) (eN0:Hid (N=zdg (if Q<0 then -P else P) Q.natAbs)) (eD0:Hid (D=zdh P Q.natAbs)) :
   Calls prog 94 #[.pointer (some ⟨zb,0,none⟩),.pointer (some ⟨xb,0,none⟩),.pointer (some ⟨yb,0,none⟩)] w fun e w'=>e=.returned (.pointer (some ⟨zb,0,none⟩))∧But [zb] w w'∧zw w' zb N D:=by(
 have lx:=hx.lt
 have ly:=hy.lt
 have lz:=hz0.lt
 go_enter func94,ntmps94
 go_wp2
 go_region_with (first
  | (go_at_call_of 83 (Value.pointer (some ⟨yb,0,none⟩));refine (xg yb y ny _ ?_ hny).mono ?_;(refine hy.but ?_;repeat (first | assumption | exact But.refl _ _ | apply But.drew | apply But.alloc));rintro e w' ⟨rfl,rfl⟩)
  | (go_at_call_of 83 (Value.pointer (some ⟨xb,0,none⟩));refine (xg xb x nx _ ?_ hnx).mono ?_;(refine hx.but ?_;repeat (first | assumption | exact But.refl _ _ | apply But.drew | apply But.alloc));rintro e w' ⟨rfl,rfl⟩)
  | (go_at_call_of 85 (Value.pointer (some ⟨xb,0,none⟩));refine (je _ xb 0 yb 0 x y P hP w _ ?_ ?_ ?_ hx.up hy.up hxl hyl hPl).mono ?_;(first | exact zvd _ _ | exact ziu _ _ _ | exact zit _ _ _);(repeat (first | assumption | exact But.refl _ _ | apply But.drew | apply But.alloc));omega;rintro e W1 ⟨rfl,KB1,KA1,KS1,KI1,KL1⟩)
  | (go_at_call_of 85 (Value.pointer (some ⟨xb,2,none⟩));refine (je _ xb 2 yb 2 (nx:Int) (ny:Int) Q hQ w _ ?_ ?_ ?_ hx.low hy.low (by rw[Int.natAbs_natCast];exact hnxl) (by rw[Int.natAbs_natCast];exact hnyl) hQl).mono ?_;(first | exact jq _ _ | exact KS1 _ (by omega) (ziu _ _ _) | exact KS1 _ (by omega) (zit _ _ _));(repeat (first | assumption | exact But.refl _ _ | apply But.drew | apply But.alloc));(have:=KB1.size;omega);rintro e W2 ⟨rfl,KB2,KA2,KS2,KI2,KL2⟩)
  | (go_at_call 67;refine (dh zb _ 0 _ 0 P Q _ (hz0.but KB2 (by simp)) (hz2.but KB2 (by simp)) (KI2 _ _ _ ?_ ?_) KA2 hPl hQl hQ0 N D eN0 eD0).mono ?_;(have:=KA1.lt;omega);(refine KA1.but ?_;repeat (first | exact But.refl _ _ | apply But.drew | apply But.alloc));rintro e W3 ⟨rfl,KB3,KR3⟩))
 all_goals go_wp2
 all_goals go_ret
 all_goals exact⟨rfl,(KB2.of_nil (l:=[zb])).trans KB3 (by simp),KR3⟩)
def ze (w:World) (b:Nat) (f:Rat):Prop:=zw w b f.num (f.den:Int)
theorem ze.but {w w':World} {b:Nat} {f:Rat} (h:ze w b f) (hb:But [] w w'):ze w' b f:=zw.but h hb
def zu (f:Rat) (n:Nat):Prop:=(wd 4294967296 f.num.natAbs).length≤n∧(wd 4294967296 f.den).length≤n
theorem zfj (X Y:Nat):(wd 4294967296 (X*Y)).length≤(wd 4294967296 X).length+(wd 4294967296 Y).length:=by(
 refine aj (by omega) _ _ ?_
 rw[Nat.pow_add]
 have h1:=ak (B:=4294967296) (by omega) X _ (Nat.le_refl _)
 have h2:=ak (B:=4294967296) (by omega) Y _ (Nat.le_refl _)
 rcases Nat.eq_zero_or_pos Y with h | h
 ·subst h;rw[Nat.mul_zero];exact Nat.mul_pos (Nat.pow_pos (by omega)) (Nat.pow_pos (by omega))
 ·exact Nat.lt_of_lt_of_le (Nat.mul_lt_mul_of_pos_right h1 h) (Nat.mul_le_mul_left _ (Nat.le_of_lt h2)))
theorem zdw (p q:Int) (hq:q≠0) (f:Rat) (hf:f.num*q=p*(f.den:Int)):f.num=zdg (if q<0 then -p else p) q.natAbs∧(f.den:Int)=zdh p q.natAbs:=by(
 have hd0:0<f.den:=Nat.pos_of_ne_zero f.den_nz
 have hn0:0<q.natAbs:=by omega
 have hab:f.num.natAbs*q.natAbs=p.natAbs*f.den:=by
  have:=congrArg Int.natAbs hf
  rw[Int.natAbs_mul,Int.natAbs_mul,Int.natAbs_natCast] at this
  exact this
 have hco:Nat.Coprime f.num.natAbs f.den:=f.reduced
 have hd:f.den ∣ q.natAbs:=hco.symm.dvd_of_dvd_mul_left ⟨p.natAbs,by rw[hab,Nat.mul_comm]⟩
 obtain⟨k,hk⟩:=hd
 have hk0:0<k:=by
  rcases Nat.eq_zero_or_pos k with h | h
  ·rw[h,Nat.mul_zero] at hk;omega
  ·exact h
 have hX:p.natAbs=f.num.natAbs*k:=by
  rw[hk,← Nat.mul_assoc,Nat.mul_right_comm] at hab
  exact (Nat.eq_of_mul_eq_mul_right hd0 hab).symm
 have hg:Nat.gcd p.natAbs q.natAbs=k:=by rw[hX,hk,Nat.gcd_mul_right,hco,Nat.one_mul]
 have e1:p.natAbs/k=f.num.natAbs:=by rw[hX,Nat.mul_div_cancel _ hk0]
 have e2:q.natAbs/k=f.den:=by rw[hk,Nat.mul_div_cancel _ hk0]
 refine⟨?_,by rw[zdh,hg,e2]⟩
 have hab2:(if q<0 then -p else p).natAbs=p.natAbs:=by split <;> simp
 rw[zdg,hab2,hg,e1]
 by_cases hqn:q<0
 ·(
 rw[if_pos hqn]
 by_cases hpn:-p<0
 ·(
 rw[if_pos hpn]
 have:f.num<0:=by
  rcases Int.lt_or_le f.num 0 with h | h
  ·exact h
  ·exfalso
   have h1:f.num*q≤0:=Int.mul_nonpos_of_nonneg_of_nonpos h (by omega)
   have h2:0<p*(f.den:Int):=Int.mul_pos (by omega) (by omega)
   omega
 omega)
 ·(
 rw[if_neg hpn]
 have:0≤f.num:=by
  rcases Int.lt_or_le f.num 0 with h | h
  ·exfalso
   have h1:0<f.num*q:=Int.mul_pos_of_neg_of_neg h hqn
   have h2:p*(f.den:Int)≤0:=Int.mul_nonpos_of_nonpos_of_nonneg (by omega) (by omega)
   omega
  ·exact h
 omega))
 ·(
 rw[if_neg hqn]
 by_cases hpn:p<0
 ·(
 rw[if_pos hpn]
 have:f.num<0:=by
  rcases Int.lt_or_le f.num 0 with h | h
  ·exact h
  ·exfalso
   have h1:0≤f.num*q:=Int.mul_nonneg h (by omega)
   have h2:p*(f.den:Int)<0:=Int.mul_neg_of_neg_of_pos hpn (by omega)
   omega
 omega)
 ·(
 rw[if_neg hpn]
 have:0≤f.num:=by
  rcases Int.lt_or_le f.num 0 with h | h
  ·exfalso
   have h1:f.num*q<0:=Int.mul_neg_of_neg_of_pos h (by omega)
   have h2:0≤p*(f.den:Int):=Int.mul_nonneg (by omega) (by omega)
   omega
  ·exact h
 omega)))
theorem zmp (a b:Int) (f:Rat) (w:World) (ha1:-9223372036854775808≤a) (ha2:a<9223372036854775808) (hb1:-9223372036854775808≤b) (hb2:b<9223372036854775808) (hb0:b≠0) (hf:Hid (f.num*b=a*(f.den:Int))) :
   Calls prog 72 #[.int .i64 a,.int .i64 b] w fun e w'=>∃ zb,e=.returned (.pointer (some ⟨zb,0,none⟩))∧But [] w w'∧ze w' zb f∧w.heap.size≤zb:=by(
 have hbz:(b==0)=false:=beq_eq_false_iff_ne.2 hb0
 have hs:=zby w 113
 have hbw:But [] w (w.alloc (.cells #[.bool false,.slice none 0 0,.bool false,.slice none 0 0] 113)):=(But.refl _ _).alloc _
 obtain⟨e1,e2⟩:=zdw a b hb0 f (ae hf)
 have HE:=af (And.intro e1 e2)
 obtain⟨W0,hW0⟩:∃ W0,W0=w.alloc (.cells #[.bool false,.slice none 0 0,.bool false,.slice none 0 0] 113):=⟨_,rfl⟩
 rw[← hW0] at hs hbw
 have HW0:=af hW0
 have HS:=af hs
 have HBW:=af hbw
 clear e1 e2 hf hW0 hs hbw
 go_enter func72,ntmps72
 go_wp2_with fail
 rw[← ae HW0]
 refine (zak a _ ha1 ha2).mono ?_
 rintro e w1 ⟨rfl,B1,I1,S1⟩
 have K1:=af (And.intro B1 I1)
 clear B1 I1 S1
 go_wp2_with fail
 refine (zak b _ hb1 hb2).mono ?_
 rintro e w2 ⟨rfl,B2,I2,S2⟩
 have K2:=af (And.intro ((ae K1).1.trans' B2) (And.intro ((ae K1).2.but B2) I2))
 clear B2 I2 S2 K1
 go_wp2_with fail
 refine (dh w.heap.size W0.heap.size 0 w1.heap.size 0 a b w2 ((ae HS).1.but (ae K2).1 (by simp)) ((ae HS).2.but (ae K2).1 (by simp)) (ae K2).2.1 (ae K2).2.2 (by have:=dm a.natAbs (by omega);omega) (by have:=dm b.natAbs (by omega);omega) hb0 f.num (f.den:Int) (ae HE).1 (ae HE).2).mono ?_
 rintro e w3 ⟨rfl,B3,R3⟩
 have FIN:=af (And.intro (((ae HBW).trans' (ae K2).1).trans B3 (by simp)) R3)
 clear B3 R3
 go_wp2
 go_ret
 exact⟨w.heap.size,rfl,(ae FIN).1,(ae FIN).2,Nat.le_refl _⟩)
theorem zon (o u:Int) (f:Rat) (w:World) (ho1:-9223372036854775808≤o) (ho2:o<9223372036854775808) (hu1:-9223372036854775808≤u) (hu2:u<9223372036854775808) (hf:Hid (f.num*(if u=0 then 1 else u)=o*(f.den:Int))) :
   Calls prog 14 #[.agg #[.int .i64 o,.int .i64 u]] w fun e w'=>∃ zb,e=.returned (.pointer (some ⟨zb,0,none⟩))∧But [] w w'∧ze w' zb f∧w.heap.size≤zb:=by(
 have bw:But [] w (w.alloc (.cells #[.int .i64 o,.int .i64 u] 23)):=(But.refl _ _).alloc _
 by_cases hu:u=0
 ·(
 subst hu
 have NR:=af (fun W=>zmp o 1 f W ho1 ho2 (by omega) (by omega) (by omega) (af (by have:=ae hf;rw[if_pos rfl] at this;exact this)))
 clear hf
 go_enter func14,ntmps14
 go_wp2_with fail
 refine (ae NR _).mono ?_
 rintro e w1 ⟨zb,rfl,h1,h2,h3⟩
 have FIN:=af (And.intro (bw.trans' h1) (And.intro h2 (Nat.le_trans bw.size h3)))
 clear h1 h2 h3
 go_wp2
 go_ret
 exact⟨zb,rfl,(ae FIN).1,(ae FIN).2.1,(ae FIN).2.2⟩)
 ·(
 have NR:=af (fun W=>zmp o u f W ho1 ho2 hu1 hu2 hu (af (by have:=ae hf;rw[if_neg hu] at this;exact this)))
 have hub:(u==0)=false:=beq_eq_false_iff_ne.2 hu
 clear hf
 go_enter func14,ntmps14
 go_wp2_with fail
 refine (ae NR _).mono ?_
 rintro e w1 ⟨zb,rfl,h1,h2,h3⟩
 have FIN:=af (And.intro (bw.trans' h1) (And.intro h2 (Nat.le_trans bw.size h3)))
 clear h1 h2 h3
 go_wp2
 go_ret
 exact⟨zb,rfl,(ae FIN).1,(ae FIN).2.1,(ae FIN).2.2⟩))
theorem zvl (xb yb:Nat) (f g:Rat) (w:World) (hx:ze w xb f) (hy:ze w yb g) (lf:zu f 2000000) (lg:zu g 2000000) :
   Calls prog 28 #[.pointer (some ⟨xb,0,none⟩),.pointer (some ⟨yb,0,none⟩)] w fun e w'=>∃ zb,e=.returned (.pointer (some ⟨zb,0,none⟩))∧But [] w w'∧ze w' zb (f*g)∧w.heap.size≤zb:=by(
 have hfd:0<f.den:=Nat.pos_of_ne_zero f.den_nz
 have hgd:0<g.den:=Nat.pos_of_ne_zero g.den_nz
 have hQ0:(f.den:Int)*(g.den:Int)≠0:=Int.mul_ne_zero (by omega) (by omega)
 have hc:=zdo f g
 rw[Int.natCast_mul] at hc
 obtain⟨e1,e2⟩:=zdw (f.num*g.num) ((f.den:Int)*(g.den:Int)) hQ0 (f*g) hc
 obtain⟨W0,hW0⟩:∃ W0,W0=w.alloc (.cells #[.bool false,.slice none 0 0,.bool false,.slice none 0 0] 113):=⟨_,rfl⟩
 have hs:=zby w 113
 have hbw:But [] w W0:=by rw[hW0];exact (But.refl _ _).alloc _
 rw[← hW0] at hs
 have l1:=zfj f.num.natAbs g.num.natAbs
 have l2:=zfj f.den g.den
 obtain⟨lf1,lf2⟩:=lf
 obtain⟨lg1,lg2⟩:=lg
 have MU:=af (qfa w.heap.size xb yb f.num g.num f.den g.den W0 hs.1 hs.2 (zw.but hx hbw) (zw.but hy hbw) hfd hgd (by omega) (by omega) (by omega) (by omega) _ _ rfl rfl (by rw[Int.natAbs_mul];omega) (by rw[Int.natAbs_mul,Int.natAbs_natCast,Int.natAbs_natCast];omega) hQ0 (f*g).num ((f*g).den:Int) e1 e2)
 have HW0:=af hW0
 have HBW:=af hbw
 clear hW0 hbw hs e1 e2 hc hQ0 l1 l2 lf1 lf2 lg1 lg2 hx hy hfd hgd
 go_enter func28,ntmps28
 go_wp2_with fail
 rw[← ae HW0]
 refine (ae MU).mono ?_
 rintro e w1 ⟨rfl,h1,h2⟩
 have FIN:=af (And.intro ((ae HBW).trans h1 (by simp)) h2)
 clear h1 h2 MU
 go_wp2
 go_ret
 exact⟨w.heap.size,rfl,(ae FIN).1,(ae FIN).2,Nat.le_refl _⟩)
theorem zji {a b:Nat} (h:a≤b):(wd 4294967296 a).length≤(wd 4294967296 b).length:=aj (by omega) _ _ (Nat.lt_of_le_of_lt h (ak (by omega) b _ (Nat.le_refl _)))
theorem qfg (a b n:Nat) (ha:(wd 4294967296 a).length≤n) (hb:(wd 4294967296 b).length≤n):(wd 4294967296 (a+b)).length≤n+1:=by(
 refine aj (by omega) _ _ ?_
 have h1:=ak (B:=4294967296) (by omega) a n ha
 have h2:=ak (B:=4294967296) (by omega) b n hb
 rw[Nat.pow_succ]
 omega)
theorem qba (f g q:Rat) (h:q*g=f):q.num*((f.den:Int)*g.num)=f.num*(g.den:Int)*(q.den:Int):=by(
 have hc:=zdo q g
 rw[h,Int.natCast_mul] at hc
 grind)
theorem zsk (xb yb:Nat) (f g q:Rat) (w:World) (hx:ze w xb f) (hy:ze w yb g) (lf:zu f 2000000) (lg:zu g 2000000) (hg0:g.num≠0) (hq:q*g=f) :
   Calls prog 26 #[.pointer (some ⟨xb,0,none⟩),.pointer (some ⟨yb,0,none⟩)] w fun e w'=>∃ zb,e=.returned (.pointer (some ⟨zb,0,none⟩))∧But [] w w'∧ze w' zb q∧w.heap.size≤zb:=by(
 have hfd:0<f.den:=Nat.pos_of_ne_zero f.den_nz
 have hgd:0<g.den:=Nat.pos_of_ne_zero g.den_nz
 have hQ0:(f.den:Int)*g.num≠0:=Int.mul_ne_zero (by omega) hg0
 obtain⟨e1,e2⟩:=zdw (f.num*(g.den:Int)) ((f.den:Int)*g.num) hQ0 q (qba f g q hq)
 obtain⟨W0,hW0⟩:∃ W0,W0=w.alloc (.cells #[.bool false,.slice none 0 0,.bool false,.slice none 0 0] 113):=⟨_,rfl⟩
 have hs:=zby w 113
 have hbw:But [] w W0:=by rw[hW0];exact (But.refl _ _).alloc _
 rw[← hW0] at hs
 have l1:=zfj f.num.natAbs g.den
 have l2:=zfj f.den g.num.natAbs
 obtain⟨lf1,lf2⟩:=lf
 obtain⟨lg1,lg2⟩:=lg
 have QU:=af (qcx w.heap.size xb yb f.num g.num f.den g.den W0 hs.1 hs.2 (zw.but hx hbw) (zw.but hy hbw) hfd hgd (by omega) (by omega) (by omega) (by omega) _ _ rfl rfl (by rw[Int.natAbs_mul,Int.natAbs_natCast];omega) (by rw[Int.natAbs_mul,Int.natAbs_natCast];omega) hQ0 q.num (q.den:Int) e1 e2)
 obtain⟨s,hss⟩:∃ s,s=g.num.sign:=⟨_,rfl⟩
 have hs0:(s==0)=false:=beq_eq_false_iff_ne.2 (by rw[hss];exact fun h=>hg0 (Int.sign_eq_zero_iff_zero.1 h))
 have SG:=af (zkb yb g.num (g.den:Int) w hy s hss (by omega))
 have HW0:=af hW0
 have HBW:=af hbw
 clear hW0 hbw hs e1 e2 hQ0 l1 l2 lf1 lf2 lg1 lg2 hx hy hfd hgd hss hg0 hq
 go_enter func26,ntmps26
 go_wp2_with fail
 refine (ae SG).mono ?_
 rintro e w1 ⟨rfl,hw⟩
 obtain rfl:=hw.symm
 clear hw
 go_wp2_with fail
 rw[← ae HW0]
 refine (ae QU).mono ?_
 rintro e w1 ⟨rfl,h1,h2⟩
 have FIN:=af (And.intro ((ae HBW).trans h1 (by simp)) h2)
 clear h1 h2 QU
 go_wp2
 go_ret
 exact⟨w.heap.size,rfl,(ae FIN).1,(ae FIN).2,Nat.le_refl _⟩)
end Go.Proofs.YtagmkkiagjmimaaGreatDoor
