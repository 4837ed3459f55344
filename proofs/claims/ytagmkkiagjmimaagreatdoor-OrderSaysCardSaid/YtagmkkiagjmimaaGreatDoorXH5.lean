/- The length of a number in bits, and numb -/
import Derived.Laws.BitsAllLaws
import Derived.Laws.CopyOwn
import Derived.Test.YtagmkkiagjmimaaGreatDoorXH1
namespace Go.Proofs.YtagmkkiagjmimaaGreatDoor
set_option linter.unusedVariables false
open Go.Proofs.Tryz
open Go.RowKit
set_option maxHeartbeats 2000000
set_option maxRecDepth 100000
def zad (X:Nat):Nat:=(wd 4294967296 X)[(wd 4294967296 X).length-1]?.getD 0
theorem zkm (X:Nat) (h:0<X):0<zad X∧zad X<4294967296∧0<(wd 4294967296 X).length:=by(
 have hl:0<(wd 4294967296 X).length:=by rw[Nat.pos_iff_ne_zero];intro e;rw[zo (by omega)] at e;omega
 refine⟨?_,cf (zt (by omega) X) (by omega) _,hl⟩
 rcases Nat.eq_zero_or_pos (zad X) with h0 | h0
 ·(
 exfalso
 obtain⟨m,hm⟩:∃ m,(wd 4294967296 X).length=m+1:=⟨(wd 4294967296 X).length-1,by omega⟩
 have e:=pq (wd 4294967296 X) m (by omega)
 have hz:vl 4294967296 ((wd 4294967296 X).drop m)=0:=pz _ _ (fun i hi=>by
  rcases Nat.lt_or_ge i (m+1) with h1 | h1
  ·unfold zad at h0
   rw[hm,Nat.add_sub_cancel] at h0
   rw[show i=m from by omega];exact h0
  ·rw[List.getElem?_eq_none (by omega)];rfl)
 rw[hz,Nat.mul_zero,Nat.add_zero,ja (by omega)] at e
 have hb:=j6 (wd 4294967296 X) m (by omega) (zt (by omega) X)
 rw[← e] at hb
 have:=aj (B:=4294967296) (by omega) X m hb
 omega)
 ·exact h0)
theorem zvg (v:Value) (X:Nat) (w:World) (hv:Sl .u32 w v (wd 4294967296 X)) (hX:0<X) (hl:(wd 4294967296 X).length<16777216) :
   Calls prog 230 #[v] w fun e w'=>∃ n:Nat,e=.returned (.int .i64 ((((wd 4294967296 X).length:Int)-1)*32+(n:Int)))∧w'=w∧1≤n∧n≤32∧2^(n-1)≤zad X∧zad X<2^n:=by(
 obtain⟨t0,t1,t2⟩:=zkm X hX
 rcases hv.open with ⟨e,-⟩|⟨-,b,off,c,rfl,hc,hbl,hcell⟩
 ·rw[e] at t2;simp at t2
 have cx:=hcell ((wd 4294967296 X).length-1) (by omega)
 rw[show (wd 4294967296 X)[(wd 4294967296 X).length-1]?.getD 0=zad X from rfl] at cx
 clear hcell hv
 generalize zad X=t at *
 generalize (wd 4294967296 X).length=l at *
 have n0:((l:Int)==0)=false:=beq_eq_false_iff_ne.2 (by omega)
 obtain⟨m,rfl⟩:∃ m,l=m+1:=⟨l-1,by omega⟩
 rw[Nat.add_sub_cancel] at cx
 have HT:=af (And.intro t0 t1)
 clear t0
 go_enter func230,ntmps230
 go_wp2
 go_loop [3,4] (fun n x=>∃ k tN:Nat,n=.int .i64 (k:Int)∧x=.int .u32 (tN:Int)∧tN<4294967296∧k≤32∧Hid (tN=t/2^k∧(k=0∨2^(k-1)≤t))) (fun _ x=>(intOf x).toNat)
 case atStart=>exact⟨0,t,rfl,rfl,t1,by omega,by simp,.inl rfl⟩
 case round =>(
 obtain⟨k,tN,rfl,rfl,htN,hk,HI⟩:=hrel
 by_cases h0:tN=0
 ·(
 subst h0
 obtain⟨hi1,hi2⟩:=ae HI
 have hlt:t<2^k:=by
  rcases Nat.lt_or_ge t (2^k) with h | h
  ·exact h
  ·have:=Nat.div_pos h (Nat.pow_pos (by omega));omega
 have hk1:1≤k:=by
  rcases Nat.eq_zero_or_pos k with h | h
  ·subst h;have:=(ae HT).1;simp at hlt;omega
  ·exact h
 have FIN:=af (And.intro hk1 (And.intro hk (And.intro (hi2.resolve_left (by omega)) hlt)))
 clear hi1 hi2 hlt hk1 HI
 go_wp2
 go_ret
 exact⟨k,by simp,rfl,(ae FIN).1,(ae FIN).2.1,(ae FIN).2.2.1,(ae FIN).2.2.2⟩)
 ·(
 have hne:((tN:Int) != 0)=true:=by simp;omega
 obtain⟨hi1,hi2⟩:=ae HI
 have hge:2^k≤t:=by
  rcases Nat.lt_or_ge t (2^k) with h | h
  ·rw[Nat.div_eq_of_lt h] at hi1;omega
  ·exact h
 have hk31:k+1≤32:=by
  rcases Nat.lt_or_ge k 32 with h | h
  ·omega
  ·have:2^32≤2^k:=Nat.pow_le_pow_right (by omega) h
   have:=(ae HT).2
   omega
 obtain⟨q,hq⟩:∃ q,q=tN/2:=⟨_,rfl⟩
 have e1:(tN:Int)/2=(q:Int):=by omega
 have NX:Hid (q=t/2^(k+1)∧(k+1=0∨2^(k+1-1)≤t)):=by
  refine⟨?_,.inr (by rw[Nat.add_sub_cancel];exact hge)⟩
  rw[hq,hi1,Nat.div_div_eq_div_mul,Nat.pow_succ]
 have hqB:q<4294967296:=by omega
 have hqlt:q<tN:=by omega
 clear hi1 hi2 hge HI hq
 go_wp2
 refine⟨⟨k+1,q,by go_num,rfl,hqB,hk31,NX⟩,?_⟩
 simp[intOf];omega)))
/-! ### to the left -/
structure zmi (xs rs:List Nat) (s k:Nat):Prop where
 len:rs.length=xs.length+1
 mem:∀ x ∈ rs,x<4294967296
 val:vl 4294967296 rs=vl 4294967296 (xs.take k)*2^s
 top:rs[k]?.getD 0<2^s
 zero:∀ j,k<j→rs[j]?.getD 0=0
theorem zmi.start (xs:List Nat) (s:Nat):zmi xs (List.replicate (xs.length+1) 0) s 0 :=
 ⟨by simp,fun x hx=>by rw[List.mem_replicate] at hx;omega,by simp[jd,vl],by rw[List.getElem?_replicate];split <;> exact Nat.pow_pos (by omega),fun j _=>by rw[List.getElem?_replicate];split <;> rfl⟩
theorem qhw (x c s:Nat) (hx:x<4294967296) (hs:s≤31) (hc:c<2^s):c ||| (x*2^s%4294967296)=c+x*2^s%4294967296∧c+x*2^s%4294967296<4294967296∧x*2^s/4294967296<2^s∧x*2^s<18446744073709551616:=by(
 have hp:(4294967296:Nat)=2^(32-s)*2^s:=by rw[← Nat.pow_add,show (32-s)+s=32 from by omega]
 have e0:x*2^s%4294967296=x%2^(32-s)*2^s:=by rw[hp,Nat.mul_mod_mul_right]
 have e1:x*2^s/4294967296=x/2^(32-s):=by rw[hp,Nat.mul_div_mul_right _ _ (Nat.pow_pos (by omega))]
 have h1:x%2^(32-s)+1≤2^(32-s):=Nat.mod_lt _ (Nat.pow_pos (by omega))
 have h2:=Nat.mul_le_mul_right (2^s) h1
 rw[← hp,Nat.add_mul,Nat.one_mul] at h2
 have h3:2^s≤2^31:=Nat.pow_le_pow_right (by omega) hs
 refine⟨?_,?_,?_,?_⟩
 ·rw[e0,Nat.or_comm,Nat.mul_comm,← Nat.two_pow_add_eq_or_of_lt hc,Nat.add_comm]
 ·rw[e0]
  generalize x%2^(32-s)*2^s=m at *
  generalize 2^s=P at *
  omega
 ·rw[e1,Nat.div_lt_iff_lt_mul (Nat.pow_pos (by omega)),Nat.mul_comm,← hp];exact hx
 ·have:x*2^s≤4294967295*2^31:=Nat.mul_le_mul (by omega) h3
  omega)
theorem zmi.step {xs rs:List Nat} {s k:Nat} (h:zmi xs rs s k) (hk:k<xs.length) (hx:xs[k]?.getD 0<4294967296) (hs:s≤31):zmi xs ((rs.set k (rs[k]?.getD 0+xs[k]?.getD 0*2^s%4294967296)).set (k+1) (xs[k]?.getD 0*2^s/4294967296)) s (k+1):=by(
 have hl:=h.len
 obtain⟨-,f2,f3,-⟩:=qhw (xs[k]?.getD 0) (rs[k]?.getD 0) s hx hs h.top
 have f4:xs[k]?.getD 0*2^s/4294967296<4294967296:=Nat.lt_of_lt_of_le f3 (by have:2^s≤2^31:=Nat.pow_le_pow_right (by omega) hs;omega)
 refine⟨by rw[List.length_set,List.length_set];exact hl,mem_set (mem_set h.mem _ _ f2) _ _ f4,?_,?_,fun j hj=>?_⟩
 ·(
 have h1:=fw 4294967296 rs k (rs[k]?.getD 0+xs[k]?.getD 0*2^s%4294967296) (by omega)
 have h2:=fw 4294967296 (rs.set k (rs[k]?.getD 0+xs[k]?.getD 0*2^s%4294967296)) (k+1) (xs[k]?.getD 0*2^s/4294967296) (by rw[List.length_set];omega)
 rw[List.getElem?_set_ne (by omega),h.zero (k+1) (by omega),Nat.zero_mul,Nat.add_zero] at h2
 have h3:=Nat.div_add_mod (xs[k]?.getD 0*2^s) 4294967296
 have h4:=h.val
 rw[h2,wu,Nat.pow_succ]
 generalize xs[k]?.getD 0*2^s/4294967296=hi at *
 generalize xs[k]?.getD 0*2^s%4294967296=lo at *
 generalize vl 4294967296 (rs.set k (rs[k]?.getD 0+lo))=A at *
 generalize rs[k]?.getD 0=c at *
 generalize xs[k]?.getD 0=x at *
 generalize vl 4294967296 rs=B at *
 generalize vl 4294967296 (xs.take k)=V at *
 generalize (4294967296:Nat)^k=P at *
 generalize 2^s=T at *
 have e3:(4294967296*hi+lo)*P=x*T*P:=by rw[h3]
 grind)
 ·rw[List.getElem?_set_self (by rw[List.length_set];omega)];exact f3
 ·rw[List.getElem?_set_ne (by omega),List.getElem?_set_ne (by omega)];exact h.zero j (by omega))
theorem znq (v:Value) (X s:Nat) (w:World) (hv:Sl .u32 w v (wd 4294967296 X)) (hs:s≤31) (hl:(wd 4294967296 X).length<1073741824) :
   Calls prog 231 #[v,.int .u64 (s:Int)] w fun e w'=>∃ v',e=.returned v'∧Sl .u32 w' v' (wd 4294967296 (X*2^s))∧But [] w w'∧o8 w.heap.size v':=by(
 have mm:=zt (B:=4294967296) (by omega) X
 have em:=ja (B:=4294967296) (by omega) X
 rcases hv.open with ⟨e,a,c,rfl⟩|⟨hp,b,off,c,rfl,hc,hbl,hcell⟩
 ·(
 have hX:X=0:=(wh (by omega) X).1 e
 subst hX
 rw[Nat.zero_mul,zq]
 clear mm em e hv
 go_enter func231,ntmps231
 go_wp2
 go_ret
 exact⟨_,rfl,Sl.nil _ _,But.refl _ _,fun b off n c e=>by simp at e⟩)
 ·(
 generalize wd 4294967296 X=xs at *
 subst em
 have lz0:((xs.length:Int)==0)=false:=beq_eq_false_iff_ne.2 (by omega)
 have hmk:=fun wx=>zem wx xs.length hl
 have q1:(s:Int)/32=0:=by omega
 have q2:(s:Int)%32=(s:Int):=by omega
 have HC:=af hcell
 have MM:=af mm
 clear hcell mm hv
 go_enter func231,ntmps231
 go_wp2
 go_loopw [8] (fun i wr=>∃ (k:Nat) (rs:List Nat),k≤xs.length∧i=.int .i64 (k:Int)∧rs.length=xs.length+1∧Hid (zmi xs rs s k∧But [] w wr∧xw .u32 wr w.heap.size rs)) (fun i _=>xs.length-(intOf i).toNat)
 case atStart=>exact⟨0,List.replicate (xs.length+1) 0,Nat.zero_le _,rfl,by simp,zmi.start xs s,(But.refl _ _).alloc _,xw.made _ _ _ _⟩
 case round =>(
 obtain⟨k,rs,hk,rfl,hrl,HI⟩:=hrel
 rename World=>wr
 clear q1 q2
 by_cases hlt:k<xs.length
 ·(
 have cx:=(ae HI).2.1.ag (ae HC k hlt) (by simp)
 have hxB:xs[k]?.getD 0<4294967296:=cf (ae MM) (by omega) k
 obtain⟨cr,fr⟩:=(ae HI).2.2.row k (by omega)
 obtain⟨cr1,fr1⟩:=(ae HI).2.2.row (k+1) (by omega)
 rw[(ae HI).1.zero (k+1) (by omega)] at cr1
 have ST:=af ((ae HI).1.step hlt hxB hs)
 have hct:=(ae HI).1.top
 obtain⟨o1,o2,o3,o4⟩:=qhw (xs[k]?.getD 0) (rs[k]?.getD 0) s hxB hs hct
 have hcB:rs[k]?.getD 0<4294967296:=cf (ae HI).1.mem (by omega) k
 have hlB:xs[k]?.getD 0*2^s%4294967296<4294967296:=Nat.mod_lt _ (by omega)
 have HSET:=af (((ae HI).2.2.set k (by omega) (rs[k]?.getD 0+xs[k]?.getD 0*2^s%4294967296)).set (k+1) (by rw[List.length_set];omega) (xs[k]?.getD 0*2^s/4294967296))
 have HB:=af (ae HI).2.1
 have hor:bits .or .u32 ((rs[k]?.getD 0:Nat):Int) ((xs[k]?.getD 0*2^s%4294967296:Nat):Int)=((rs[k]?.getD 0+xs[k]?.getD 0*2^s%4294967296:Nat):Int):=by rw[u32_or_nat _ _ hcB hlB,o1]
 have hhB:xs[k]?.getD 0*2^s/4294967296<4294967296:=by omega
 have hor0:bits .or .u32 0 ((xs[k]?.getD 0*2^s/4294967296:Nat):Int)=((xs[k]?.getD 0*2^s/4294967296:Nat):Int):=by
  have:=u32_or_nat 0 (xs[k]?.getD 0*2^s/4294967296) (by omega) hhB
  rw[Nat.zero_or] at this
  exact this
 have hz:((xs[k]?.getD 0:Nat):Int)*2^s=((xs[k]?.getD 0*2^s:Nat):Int):=by simp
 have hz2:(((xs[k]?.getD 0*2^s:Nat):Int))%4294967296=((xs[k]?.getD 0*2^s%4294967296:Nat):Int):=by omega
 have hz3:(((xs[k]?.getD 0*2^s:Nat):Int))/4294967296=((xs[k]?.getD 0*2^s/4294967296:Nat):Int):=by omega
 have hw:IntKind.u64.wrap (((xs[k]?.getD 0:Nat):Int)*2^(s%32))=((xs[k]?.getD 0*2^s:Nat):Int):=by
  rw[Nat.mod_eq_of_lt (by omega:s<32),hz,IntKind.wrap_u64];omega
 have E1:bits .or .u32 ((rs[k]?.getD 0:Nat):Int) (IntKind.u64.wrap (((xs[k]?.getD 0:Nat):Int)*2^(s%32))%4294967296)=((rs[k]?.getD 0+xs[k]?.getD 0*2^s%4294967296:Nat):Int):=by rw[hw,hz2,hor]
 have E2:bits .or .u32 0 (IntKind.u64.wrap (((xs[k]?.getD 0:Nat):Int)*2^(s%32))/4294967296%4294967296)=((xs[k]?.getD 0*2^s/4294967296:Nat):Int):=by
  rw[hw,hz3,show ((xs[k]?.getD 0*2^s/4294967296:Nat):Int)%4294967296=((xs[k]?.getD 0*2^s/4294967296:Nat):Int) from by omega,hor0]
 clear HI o1 hct hw hz hz2 hz3 hor hor0 o2 o3 o4 hhB hlB
 generalize xs[k]?.getD 0*2^s/4294967296=hi at *
 generalize rs[k]?.getD 0+xs[k]?.getD 0*2^s%4294967296=cl at *
 generalize xs[k]?.getD 0=x at *
 generalize rs[k]?.getD 0=r at *
 have HE1:=af E1
 have HE2:=af E2
 clear E1 E2
 go_wp2
 rw[ae HE1,ae HE2]
 refine⟨⟨k+1,_,by omega,by go_num,?_,ae ST,((ae HB).setCell (p:=⟨w.heap.size,k,none⟩) (.inr (Nat.le_refl _)) _).setCell (p:=⟨w.heap.size,k+1,none⟩) (.inr (Nat.le_refl _)) _,ae HSET⟩,?_⟩
 ·rw[List.length_set,List.length_set];exact hrl
 ·simp[intOf];omega)
 ·(
 have hke:k=xs.length:=by omega
 subst hke
 have fv:=(ae HI).1.val
 rw[List.take_length] at fv
 have hsl:=(ae HI).2.2.sl (xs.length+1) (by omega)
 rw[hrl] at hsl
 have TR:=af (oh _ rs _ hsl (ae HI).1.mem (by omega))
 rw[fv] at TR
 have HB:=af (ae HI).2.1
 clear fv hsl HI
 go_wp2_with fail
 refine (ae TR).mono ?_
 rintro e w1 ⟨v1,rfl,hv1,hw,hsb⟩
 obtain rfl:=hw.symm
 clear hw
 have FIN:=af (And.intro hv1 (dw hsb (Nat.le_refl w.heap.size)))
 clear hv1 hsb
 go_wp2
 go_ret
 exact⟨v1,rfl,(ae FIN).1,ae HB,(ae FIN).2⟩))))
/-! ### to the right -/
structure zbw (X:Nat) (xs rs:List Nat) (s k:Nat):Prop where
 len:rs.length=xs.length
 mem:∀ x ∈ rs,x<4294967296
 dig:∀ j,j<k→rs[j]?.getD 0=X/2^s/4294967296^j%4294967296
theorem zbw.start (X:Nat) (xs:List Nat) (s:Nat):zbw X xs (List.replicate xs.length 0) s 0 :=
 ⟨by simp,fun x hx=>by rw[List.mem_replicate] at hx;omega,fun j h=>by omega⟩
theorem zbw.word (xs:List Nat) (s k:Nat) (hk:k<xs.length) (hm:∀ x ∈ xs,x<4294967296) (hs:s≤31):vl 4294967296 xs/2^s/4294967296^k%4294967296=(xs[k]?.getD 0+4294967296*xs[k+1]?.getD 0)/2^s%4294967296:=by(
 have h1:=pq xs k (by omega)
 have h2:=j6 xs k (by omega) hm
 have h3:vl 4294967296 xs/4294967296^k=vl 4294967296 (xs.drop k):=by
  rw[h1,Nat.add_mul_div_left _ _ (Nat.pow_pos (by omega)),Nat.div_eq_of_lt h2,Nat.zero_add]
 have h4:∃ R,vl 4294967296 (xs.drop k)=xs[k]?.getD 0+4294967296*xs[k+1]?.getD 0+4294967296*4294967296*R:=by
  rw[kg _ xs k hk]
  rcases Nat.lt_or_ge (k+1) xs.length with h | h
  ·exact⟨vl 4294967296 (xs.drop (k+1+1)),by rw[kg _ xs (k+1) h];grind⟩
  ·exact⟨0,by rw[List.drop_eq_nil_of_le h,List.getElem?_eq_none h];simp[vl]⟩
 obtain⟨R,hR⟩:=h4
 have hp:(4294967296:Nat)=2^s*2^(32-s):=by rw[← Nat.pow_add,show s+(32-s)=32 from by omega]
 rw[Nat.div_div_eq_div_mul,Nat.mul_comm (2^s),← Nat.div_div_eq_div_mul,h3,hR]
 generalize xs[k]?.getD 0+4294967296*xs[k+1]?.getD 0=V
 have e:V+4294967296*4294967296*R=V+2^s*(4294967296*(2^(32-s)*R)):=by
  congr 1
  calc 4294967296*4294967296*R=4294967296*(2^s*2^(32-s))*R:=by rw[← hp]
   _=2^s*(4294967296*(2^(32-s)*R)):=by grind
 rw[e,Nat.add_mul_div_left _ _ (Nat.pow_pos (by omega)),Nat.add_mul_mod_self_left])
theorem zbw.step {xs rs:List Nat} {s k:Nat} (h:zbw (vl 4294967296 xs) xs rs s k) (hk:k<xs.length) (hm:∀ x ∈ xs,x<4294967296) (hs:s≤31):zbw (vl 4294967296 xs) xs (rs.set k ((xs[k]?.getD 0+4294967296*xs[k+1]?.getD 0)/2^s%4294967296)) s (k+1):=by(
 have hl:=h.len
 refine⟨by rw[List.length_set];exact hl,mem_set h.mem _ _ (Nat.mod_lt _ (by omega)),fun j hj=>?_⟩
 rcases Nat.lt_or_ge j k with h1 | h1
 ·rw[List.getElem?_set_ne (by omega)];exact h.dig j h1
 ·have:j=k:=by omega
  subst this
  rw[List.getElem?_set_self (by omega),← zbw.word xs s j hk hm hs];rfl)
theorem zbw.fin {xs rs:List Nat} {s:Nat} (h:zbw (vl 4294967296 xs) xs rs s xs.length) (hm:∀ x ∈ xs,x<4294967296):vl 4294967296 rs=vl 4294967296 xs/2^s:=by
 rw[zxm 4294967296 (vl 4294967296 xs/2^s) xs.length rs h.len h.dig]
 exact Nat.mod_eq_of_lt (Nat.lt_of_le_of_lt (Nat.div_le_self _ _) (mg (by omega) xs hm))
theorem zuk (v:Value) (X s:Nat) (w:World) (hv:Sl .u32 w v (wd 4294967296 X)) (hs:s≤31) (hl:(wd 4294967296 X).length<1073741824) :
   Calls prog 232 #[v,.int .u64 (s:Int)] w fun e w'=>∃ v',e=.returned v'∧Sl .u32 w' v' (wd 4294967296 (X/2^s))∧But [] w w'∧o8 w.heap.size v':=by(
 have mm:=zt (B:=4294967296) (by omega) X
 have em:=ja (B:=4294967296) (by omega) X
 have q1:(s:Int)/32=0:=by omega
 have q2:(s:Int)%32=(s:Int):=by omega
 rcases hv.open with ⟨e,a,c,rfl⟩|⟨hp,b,off,c,rfl,hc,hbl,hcell⟩
 ·(
 have hX:X=0:=(wh (by omega) X).1 e
 subst hX
 rw[Nat.zero_div,zq]
 clear mm em e hv
 go_enter func232,ntmps232
 go_wp2
 go_ret
 exact⟨_,rfl,Sl.nil _ _,But.refl _ _,fun b off n c e=>by simp at e⟩)
 ·(
 generalize wd 4294967296 X=xs at *
 subst em
 have hne:xs≠[]:=fun e=>by rw[e] at hp;simp at hp
 have hmk:=fun wx=>zdp wx xs.length (by omega)
 have HC:=af hcell
 have MM:=af mm
 clear hcell mm hv
 go_enter func232,ntmps232
 go_wp2
 go_loopw [8] (fun i wr=>∃ (k:Nat) (rs:List Nat),k≤xs.length∧i=.int .i64 (k:Int)∧rs.length=xs.length∧Hid (zbw (vl 4294967296 xs) xs rs s k∧But [] w wr∧xw .u32 wr w.heap.size rs)) (fun i _=>xs.length-(intOf i).toNat)
 case atStart=>exact⟨0,List.replicate xs.length 0,Nat.zero_le _,rfl,by simp,zbw.start _ xs s,(But.refl _ _).alloc _,xw.made _ _ _ _⟩
 case round =>(
 obtain⟨k,rs,hk,rfl,hrl,HI⟩:=hrel
 rename World=>wr
 clear q1 q2
 by_cases hlt:k<xs.length
 ·(
 have cx:=(ae HI).2.1.ag (ae HC k hlt) (by simp)
 have hxB:xs[k]?.getD 0<4294967296:=cf (ae MM) (by omega) k
 have hyB:xs[k+1]?.getD 0<4294967296:=cf (ae MM) (by omega) (k+1)
 obtain⟨cr,fr⟩:=(ae HI).2.2.row k (by omega)
 have ST:=af ((ae HI).1.step hlt (ae MM) hs)
 have HSET:=af ((ae HI).2.2.set k (by omega) ((xs[k]?.getD 0+4294967296*xs[k+1]?.getD 0)/2^s%4294967296))
 have HB:=af (ae HI).2.1
 by_cases hly:k+1<xs.length
 ·(
 have cy:=(ae HI).2.1.ag (ae HC (k+1) hly) (by simp)
 have OR:=qff (xs[k]?.getD 0) (xs[k+1]?.getD 0) hxB hyB
 have E1:Hid (((xs[k]?.getD 0+xs[k+1]?.getD 0*4294967296:Nat):Int)/2^(s%32)%4294967296=(((xs[k]?.getD 0+4294967296*xs[k+1]?.getD 0)/2^s%4294967296:Nat):Int)):=by
  show _=_
  rw[Nat.mod_eq_of_lt (by omega:s<32),Nat.mul_comm (xs[k+1]?.getD 0)]
  simp
 clear HI
 generalize (xs[k]?.getD 0+4294967296*xs[k+1]?.getD 0)/2^s%4294967296=t at *
 generalize xs[k]?.getD 0+xs[k+1]?.getD 0*4294967296=z at *
 generalize xs[k]?.getD 0=x at *
 generalize xs[k+1]?.getD 0=y at *
 generalize rs[k]?.getD 0=r at *
 go_wp2
 rw[ae E1]
 refine⟨⟨k+1,_,by omega,by go_num,?_,ae ST,(ae HB).setCell (p:=⟨w.heap.size,k,none⟩) (.inr (Nat.le_refl _)) _,ae HSET⟩,?_⟩
 ·rw[List.length_set];exact hrl
 ·simp[intOf];omega)
 ·(
 have hy0:xs[k+1]?.getD 0=0:=by rw[List.getElem?_eq_none (by omega)];rfl
 have E1:Hid (((xs[k]?.getD 0:Nat):Int)/2^(s%32)%4294967296=(((xs[k]?.getD 0+4294967296*xs[k+1]?.getD 0)/2^s%4294967296:Nat):Int)):=by
  show _=_
  rw[Nat.mod_eq_of_lt (by omega:s<32),hy0,Nat.mul_zero,Nat.add_zero]
  simp
 clear HI hy0
 generalize (xs[k]?.getD 0+4294967296*xs[k+1]?.getD 0)/2^s%4294967296=t at *
 generalize xs[k]?.getD 0=x at *
 generalize rs[k]?.getD 0=r at *
 go_wp2
 rw[ae E1]
 refine⟨⟨k+1,_,by omega,by go_num,?_,ae ST,(ae HB).setCell (p:=⟨w.heap.size,k,none⟩) (.inr (Nat.le_refl _)) _,ae HSET⟩,?_⟩
 ·rw[List.length_set];exact hrl
 ·simp[intOf];omega))
 ·(
 have hke:k=xs.length:=by omega
 subst hke
 have fv:=(ae HI).1.fin (ae MM)
 have hsl:=(ae HI).2.2.sl xs.length (by omega)
 rw[hrl] at hsl
 have TR:=af (oh _ rs _ hsl (ae HI).1.mem (by omega))
 rw[fv] at TR
 have HB:=af (ae HI).2.1
 clear fv hsl HI
 go_wp2_with fail
 refine (ae TR).mono ?_
 rintro e w1 ⟨v1,rfl,hv1,hw,hsb⟩
 obtain rfl:=hw.symm
 clear hw
 have FIN:=af (And.intro hv1 (dw hsb (Nat.le_refl w.heap.size)))
 clear hv1 hsb
 go_wp2
 go_ret
 exact⟨v1,rfl,(ae FIN).1,ae HB,(ae FIN).2⟩))))
theorem zpp (xs:List Nat) (j:Nat) (v:Value) (h:(xs.map fun (x:Nat)=>Value.int .u32 (x:Int))[j]? = some v):j<xs.length∧v=.int .u32 (xs[j]?.getD 0:Nat):=by(
 simp only[List.getElem?_map,Option.map_eq_some_iff] at h
 obtain⟨x,hx,rfl⟩:=h
 exact⟨(List.getElem?_eq_some_iff.1 hx).1,by rw[hx];rfl⟩)
theorem zef (g:Nat):∀ (xs:List Nat) (o:Nat) (w:World),Ints .u32 w g→Ints .u32 (w.setCells g o (xs.map fun (x:Nat)=>Value.int .u32 (x:Int))) g
 | [],_,_,h=>h
 | x::xs,o,w,h=>by
  rw[List.map_cons,World.setCells]
  exact zef g xs (o+1) _ (h.set o x)
theorem zuj {w:World} {g:Nat} {rs:List Nat} (h:xw .u32 w g rs) (xs:List Nat) (hl:xs.length≤rs.length) :
   xw .u32 (w.setCells g 0 (xs.map fun (x:Nat)=>Value.int .u32 (x:Int))) g (xs++rs.drop xs.length):=by(
 refine⟨fun i hi=>⟨?_,?_⟩,fun h0=>zef _ _ _ _ (h.ints (by simp only[List.length_append,List.length_drop] at h0;omega))⟩
 ·(
 simp only[List.length_append,List.length_drop] at hi
 rcases Nat.lt_or_ge i xs.length with h1 | h1
 ·have:=World.cell?_setCells_in g (xs.map fun (x:Nat)=>Value.int .u32 (x:Int)) 0 w (fun j hj=>by rw[Nat.zero_add,(h.row j (by simp at hj;omega)).1];rfl) i (by simpa using h1)
  rw[Nat.zero_add] at this
  rw[this,List.getElem?_append_left h1]
  simp[List.getElem?_eq_getElem h1]
 ·rw[World.cell?_setCells_out g _ 0 w _ (fun _ _=>.inr (by simp;omega)),(h.row i (by omega)).1,List.getElem?_append_right h1,List.getElem?_drop,show xs.length+(i-xs.length)=i from by omega])
 ·simp only[List.length_append,List.length_drop] at hi
  rw[World.frozen?_setCells];exact (h.row i (by omega)).2)
theorem zuh (w:World) (g dCap:Nat) (vs:Value) (rs xs:List Nat) (hg:xw .u32 w g rs) (hx:Sl .u32 w vs xs) (hl:xs.length≤rs.length) :
   ∃ w',(∀ ty,(Builtin.copy_ #[109,109] ty #[.slice (some ⟨g,0,none⟩) rs.length dCap,vs]).run prog w=.ok (goInt xs.length) w')∧Hid (xw .u32 w' g (xs++rs.drop xs.length)∧But [g] w w'):=by(
 have hu:=underlying109
 obtain⟨i0,hi0,-,hs0,-⟩:=zdh
 have hsz:(prog.info? 238).map (·.size)=some 1:=by rw[hi0];simp[hs0]
 obtain⟨ad,cap,rfl,-,hc,-⟩:=hx
 rcases Nat.eq_zero_or_pos xs.length with h0 | h0
 ·have e:xs=[]:=List.length_eq_zero_iff.1 h0
  subst e
  exact⟨w,fun ty=>run_copy_none w _ _ ty _ _ _ _ _ _ _ hu hsz (by simp),by simpa using hg,But.refl _ _⟩
 ·(
 obtain⟨b,off',rfl,-⟩:=hc 0 h0
 refine⟨_,fun ty=>?_,zuj hg xs hl,br _ _ _ _⟩
 have hrun:=run_copy_cells (P:=prog) w 109 109 ty 238 g 0 rs.length dCap ⟨b,off',none⟩ xs.length cap (xs.map fun (x:Nat)=>Value.int .u32 (x:Int)) hu hsz (by rw[List.length_map];exact (Nat.min_eq_left hl).symm)
  (fun j v hj=>by
   obtain⟨h1,rfl⟩:=zpp xs j v hj
   obtain⟨b2,off2,e,h2⟩:=hc j h1
   simp only[Option.some.injEq,Addr.mk.injEq] at e
   obtain⟨rfl,rfl,-⟩:=e
   rw[addr_add];exact h2)
  (fun j hj=>by rw[Nat.zero_add,(hg.row j (by simp at hj;omega)).1];rfl) (fun j hj=>by rw[Nat.zero_add];exact (hg.row j (by simp at hj;omega)).2) (fun v hv=>by
   simp only[List.mem_map] at hv
   obtain⟨x,-,rfl⟩:=hv
   rfl)
 rw[List.length_map] at hrun
 exact hrun))
theorem zuw (B n:Nat) (hB:0<B) (hn1:1≤n) (hn:n≤32) (h1:2^(n-1)≤zad B) (h2:zad B<2^n) :
   (wd 4294967296 (B*2^(32-n))).length=(wd 4294967296 B).length∧2147483648≤zad (B*2^(32-n)):=by(
 obtain⟨t0,t1,t2⟩:=zkm B hB
 obtain⟨m,hm⟩:∃ m,(wd 4294967296 B).length=m+1:=⟨(wd 4294967296 B).length-1,by omega⟩
 have e:=pq (wd 4294967296 B) m (by omega)
 rw[kg _ _ m (by omega),List.drop_eq_nil_of_le (by omega:(wd 4294967296 B).length≤m+1),ja (by omega)] at e
 simp only[vl,Nat.mul_zero,Nat.add_zero] at e
 have ht:(wd 4294967296 B)[m]?.getD 0=zad B:=by unfold zad;rw[hm,Nat.add_sub_cancel]
 have hlo:=j6 (wd 4294967296 B) m (by omega) (zt (by omega) B)
 rw[ht] at e
 generalize vl 4294967296 ((wd 4294967296 B).take m)=L at *
 generalize hP:(4294967296:Nat)^m=P at *
 have h3:(zad B+1)*2^(32-n)≤4294967296:=by
  have:(zad B+1)*2^(32-n)≤2^n*2^(32-n):=Nat.mul_le_mul_right _ h2
  rw[← Nat.pow_add,show n+(32-n)=32 from by omega] at this
  exact this
 have h4:2147483648≤zad B*2^(32-n):=by
  have:2^(n-1)*2^(32-n)≤zad B*2^(32-n):=Nat.mul_le_mul_right _ h1
  rw[← Nat.pow_add,show n-1+(32-n)=31 from by omega] at this
  exact this
 generalize hT:2^(32-n)=T at *
 generalize zad B=t at *
 have hup:B*T<4294967296^(m+1):=by
  rw[e,Nat.pow_succ,hP]
  have h5:(L+P*t)*T<(P*(t+1))*T:=Nat.mul_lt_mul_of_pos_right (by rw[Nat.mul_succ];omega) (by rw[← hT];exact Nat.pow_pos (by omega))
  have h6:P*(t+1)*T=P*((t+1)*T):=Nat.mul_assoc _ _ _
  have h7:P*((t+1)*T)≤P*4294967296:=Nat.mul_le_mul_left _ h3
  omega
 have hge:P*2147483648≤B*T:=by
  rw[e]
  have h5:P*2147483648≤P*(t*T):=Nat.mul_le_mul_left _ h4
  have h6:(L+P*t)*T=L*T+P*(t*T):=by rw[Nat.add_mul,Nat.mul_assoc]
  omega
 have hlen:(wd 4294967296 (B*T)).length=m+1:=by
  refine Nat.le_antisymm (aj (by omega) _ _ hup) ?_
  rcases Nat.lt_or_ge (wd 4294967296 (B*T)).length (m+1) with h | h
  ·exfalso
   have:=am (B:=4294967296) (by omega) (B*T) m (by omega)
   rw[hP] at this
   omega
  ·exact h
 refine⟨by rw[hlen,hm],?_⟩
 have e2:=pq (wd 4294967296 (B*T)) m (by omega)
 rw[kg _ _ m (by omega),List.drop_eq_nil_of_le (by omega:(wd 4294967296 (B*T)).length≤m+1),ja (by omega)] at e2
 simp only[vl,Nat.mul_zero,Nat.add_zero] at e2
 have ht2:(wd 4294967296 (B*T))[m]?.getD 0=zad (B*T):=by unfold zad;rw[hlen,Nat.add_sub_cancel]
 have hlo2:=j6 (wd 4294967296 (B*T)) m (by omega) (zt (by omega) _)
 rw[ht2,hP] at e2
 rw[hP] at hlo2
 rcases Nat.lt_or_ge (zad (B*T)) 2147483648 with h | h
 ·exfalso
  have h8:P*(zad (B*T)+1)≤P*2147483648:=Nat.mul_le_mul_left _ h
  rw[Nat.mul_succ] at h8
  omega
 ·exact h)
end Go.Proofs.YtagmkkiagjmimaaGreatDoor
