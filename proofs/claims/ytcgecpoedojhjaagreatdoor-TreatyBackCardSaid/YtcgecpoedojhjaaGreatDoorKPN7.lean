/- The lower and the higher words of a whol -/
import Derived.Deep.RegionHeld
import Derived.Deep.RegionWith
import Derived.Test.YtcgecpoedojhjaaGreatDoorKPG0
import Derived.Test.YtcgecpoedojhjaaGreatDoorKPN6
namespace Go.Proofs.YtcgecpoedojhjaaGreatDoor
open Go.Proofs.Tryz
open Go.RowKit
set_option maxHeartbeats 4000000
set_option maxRecDepth 100000
theorem zpq (n X:Nat):(wd 18446744073709551616 X).drop n=wd 18446744073709551616 (X / 18446744073709551616^n):=by
 induction n generalizing X with
 | zero=>simp
 | succ n ih =>
  rcases Nat.eq_zero_or_pos X with h | h
  ·subst h;simp[qd]
  ·rw[zdb (by omega) h,List.drop_succ_cons,ih,Nat.div_div_eq_div_mul,Nat.pow_succ,Nat.mul_comm 18446744073709551616]
theorem qot (xs:List Nat) (n:Nat) (h:∀ x ∈ xs,x < 18446744073709551616):vl 18446744073709551616 (xs.take n)=vl 18446744073709551616 xs % 18446744073709551616^n:=by
 have h1:vl 18446744073709551616 xs=vl 18446744073709551616 (xs.take n) + 18446744073709551616^(xs.take n).length*vl 18446744073709551616 (xs.drop n):=by rw[← qj,List.take_append_drop]
 have h2:=tu (by omega:0 < 18446744073709551616) (xs.take n) (fun x hx=>h x (List.mem_of_mem_take hx))
 rcases Nat.lt_or_ge n xs.length with hn | hn
 ·have e:(xs.take n).length=n:=by rw[List.length_take];omega
  rw[e] at h1 h2
  rw[h1,Nat.add_mul_mod_self_left,Nat.mod_eq_of_lt h2]
 ·rw[List.take_of_length_le hn] at h2 ⊢
  rw[Nat.mod_eq_of_lt (Nat.lt_of_lt_of_le h2 (Nat.pow_le_pow_right (by omega) hn))]
theorem zwx (n X:Nat):vl 18446744073709551616 ((wd 18446744073709551616 X).take n)=X % 18446744073709551616^n:=by rw[qot _ _ (qy (by omega) X),xh (by omega)]
theorem ko (n X:Nat):(wd 18446744073709551616 (X / 18446744073709551616^n)).length=(wd 18446744073709551616 X).length-n:=by rw[← zpq,List.length_drop]
theorem zkc (n X:Nat):(wd 18446744073709551616 (X % 18446744073709551616^n)).length≤n:=zt (by omega) _ _ (Nat.mod_lt _ (Nat.pow_pos (by omega)))
theorem zu {X Y:Nat} (h:X≤Y):(wd 18446744073709551616 X).length≤(wd 18446744073709551616 Y).length:=zt (by omega) X _ (Nat.lt_of_le_of_lt h (zw (by omega) Y _ (Nat.le_refl _)))
theorem zrs (n X:Nat):(wd 18446744073709551616 (X % 18446744073709551616^n)).length≤(wd 18446744073709551616 X).length:=zu (Nat.mod_le _ _)
theorem Sl.take {k:IntKind} {w:World} {b off cap:Nat} {xs:List Nat} (h:Sl k w (.slice (some ⟨b,off,none⟩) xs.length cap) xs) (n c:Nat) (hn:n≤xs.length) (hc:n≤c):Sl k w (.slice (some ⟨b,off,none⟩) n c) (xs.take n):=by
 have hl:(xs.take n).length=n:=by rw[List.length_take];omega
 have hI:=h.ints
 obtain⟨a,cap',e,-,h1,-⟩:=h
 have h2:=Sl.mk (k:=k) (w:=w) (xs:=xs.take n) b off c (by omega) (fun i hi=>by
  obtain⟨b2,off2,e2,h3⟩:=h1 i (by omega)
  simp only[Value.slice.injEq] at e
  obtain⟨rfl,-,-⟩:=e
  simp only[Option.some.injEq,Addr.mk.injEq] at e2
  obtain⟨rfl,rfl,-⟩:=e2
  rw[zop xs n i (by omega)];exact h3) (fun h0=>hI (by omega))
 rw[hl] at h2
 exact h2
theorem Sl.drop {k:IntKind} {w:World} {b off cap:Nat} {xs:List Nat} (h:Sl k w (.slice (some ⟨b,off,none⟩) xs.length cap) xs) (n m c:Nat) (hm:m=xs.length-n) (hc:m≤c):Sl k w (.slice (some ⟨b,off+n,none⟩) m c) (xs.drop n):=by
 have hl:(xs.drop n).length=m:=by rw[List.length_drop];omega
 have hI:=h.ints
 obtain⟨a,cap',e,-,h1,-⟩:=h
 have h2:=Sl.mk (k:=k) (w:=w) (xs:=xs.drop n) b (off+n) c (by omega) (fun i hi=>by
  obtain⟨b2,off2,e2,h3⟩:=h1 (n+i) (by omega)
  simp only[Value.slice.injEq] at e
  obtain⟨rfl,-,-⟩:=e
  simp only[Option.some.injEq,Addr.mk.injEq] at e2
  obtain⟨rfl,rfl,-⟩:=e2
  rw[List.getElem?_drop,Nat.add_assoc];exact h3) (fun h0=>hI (by omega))
 rw[hl] at h2
 exact h2
theorem zci (v:Value) (X n:Nat) (w:World) (hv:Sl .u64 w v (wd 18446744073709551616 X)) (hl:(wd 18446744073709551616 X).length<2147483648) (hn:n<2147483648) :
  Calls prog 157 #[v,.int .i64 (n:Int)] w fun e w'=>∃ v',e=.returned v'∧Sl .u64 w v' (wd 18446744073709551616 (X % 18446744073709551616^n))∧w'=w:=by
 by_cases hle:(wd 18446744073709551616 X).length≤n
 ·have e:X % 18446744073709551616^n=X:=Nat.mod_eq_of_lt (zw (by omega) X n hle)
  rw[e]
  have HV:=hide hv
  obtain⟨a,c,rfl,-,-⟩:=hv
  clear e
  generalize (wd 18446744073709551616 X).length=l at *
  go_enter func157,ntmps157
  go_wp2
  go_ret
  exact⟨_,rfl,za HV,rfl⟩
 ·rcases hv.open with ⟨e,-⟩|⟨h0,b,off,c,rfl,hc,-,-⟩
  ·rw[e] at hle;simp at hle
  have ht:=qp (.slice (some ⟨b,off,none⟩) n c) ((wd 18446744073709551616 X).take n) w (hv.take n c (by omega) (by omega)) (fun x hx=>qy (by omega) X x (List.mem_of_mem_take hx)) (by rw[List.length_take];omega)
  rw[zwx] at ht
  have HT:=hide ht
  clear ht hv
  generalize (wd 18446744073709551616 X).length=l at *
  have hnl:n<l:=by omega
  have hnc:n≤c:=by omega
  go_enter func157,ntmps157
  go_wp2_with fail
  refine (za HT).mono ?_
  rintro e w1 ⟨v',rfl,h1,hw,-⟩
  obtain rfl:=hw.symm
  clear hw
  have H1:=hide h1
  clear h1
  go_wp2
  go_ret
  exact⟨v',rfl,za H1,rfl⟩
theorem nu (v:Value) (X n:Nat) (w:World) (hv:Sl .u64 w v (wd 18446744073709551616 X)) (_hl:(wd 18446744073709551616 X).length<2147483648) (hn:n<2147483648) :
  Calls prog 159 #[v,.int .i64 (n:Int)] w fun e w'=>∃ v',e=.returned v'∧Sl .u64 w v' (wd 18446744073709551616 (X / 18446744073709551616^n))∧w'=w:=by
 by_cases hle:(wd 18446744073709551616 X).length≤n
 ·have e:X / 18446744073709551616^n=0:=Nat.div_eq_of_lt (zw (by omega) X n hle)
  rw[e,qd]
  obtain⟨a,c,rfl,-,-⟩:=hv
  clear e
  generalize (wd 18446744073709551616 X).length=l at *
  go_enter func159,ntmps159
  go_wp2
  go_ret
  exact⟨_,rfl,Sl.nil _ _,rfl⟩
 ·rcases hv.open with ⟨e,-⟩|⟨h0,b,off,c,rfl,hc,-,-⟩
  ·rw[e] at hle;simp at hle
  have HR:=hide (hv.drop n ((wd 18446744073709551616 X).length-n) (c-n) rfl (by omega))
  rw[zpq] at HR
  clear hv
  generalize (wd 18446744073709551616 X).length=l at *
  have hnl:n<l:=by omega
  have hnc:n<c:=by omega
  go_enter func159,ntmps159
  go_wp2
  go_ret
  exact⟨_,rfl,za HR,rfl⟩
def Own (lo:Nat) (w:World) (v:Value):Prop:=∀ b off n c,v=.slice (some ⟨b,off,none⟩) n c→lo≤b∧∀ i,i<n→w.frozen? ⟨b,off+i,none⟩=false
theorem zqi {w:World} {g lo n c:Nat} {rs ys:List Nat} {v:Value} (hs:Seg w g 0 rs) (hb:zcb (.slice (some ⟨g,0,none⟩) n c) v) (hv:Sl .u64 w v ys) (hl:ys.length≤rs.length) (hg:lo≤g):Own lo w v:=fun b off m c' e=>by
 obtain⟨n',c'',e'⟩:=hb b off m c' e
 simp only[Value.slice.injEq,Option.some.injEq,Addr.mk.injEq] at e'
 obtain⟨⟨rfl,rfl,-⟩,-,-⟩:=e'
 obtain⟨a,cap,e2,-,-⟩:=hv
 rw[e] at e2
 simp only[Value.slice.injEq] at e2
 obtain⟨-,rfl,-⟩:=e2
 exact⟨hg,fun i hi=>(hs i (by omega)).2⟩
theorem Own.mono {lo lo':Nat} {w:World} {v:Value} (h:Own lo w v) (hl:lo'≤lo):Own lo' w v:=fun b off n c e=>⟨Nat.le_trans hl (h b off n c e).1,(h b off n c e).2⟩
theorem qil (lo:Nat) (w:World) (c:Nat):Own lo w (.slice none 0 c):=fun b off n c e=>by simp at e
theorem set_drop (rs:List Nat) (i s:Nat) (h:i<rs.length):(rs.set i s).drop i=s::rs.drop (i+1):=by
 rw[List.drop_eq_getElem_cons (by rw[List.length_set];exact h),List.getElem_set_self,List.drop_set]
 simp
theorem qbm (x c n:Nat) (hx:x < 18446744073709551616) (hn0:0<n) (hn:n≤63) (hc:c<2^n):(x*2^n % 18446744073709551616) ||| c=x*2^n % 18446744073709551616+c∧x*2^n % 18446744073709551616+c < 18446744073709551616∧x*2^n % 18446744073709551616+c + 18446744073709551616*(x/2^(64-n))=x*2^n+c∧x/2^(64-n)<2^n:=by
 have hp:18446744073709551616=2^(64-n)*2^n:=by rw[← Nat.pow_add,show (64-n)+n=64 from by omega]
 have e0:x*2^n % 18446744073709551616=x%2^(64-n)*2^n:=by rw[hp,Nat.mul_mod_mul_right]
 have e1:x*2^n / 18446744073709551616=x/2^(64-n):=by rw[hp,Nat.mul_div_mul_right _ _ (Nat.pow_pos (by omega))]
 have h1:x%2^(64-n)+1≤2^(64-n):=Nat.mod_lt _ (Nat.pow_pos (by omega))
 have h2:=Nat.mul_le_mul_right (2^n) h1
 rw[← hp,Nat.add_mul,Nat.one_mul] at h2
 have h3:=Nat.div_add_mod (x*2^n) 18446744073709551616
 rw[e1] at h3
 refine⟨?_,?_,?_,?_⟩
 ·rw[e0,Nat.mul_comm,Nat.two_pow_add_eq_or_of_lt hc]
 ·rw[e0]
  generalize x%2^(64-n)*2^n=m at *
  generalize 2^n=P at *
  omega
 ·generalize x*2^n=z at *
  generalize x/2^(64-n)=y at *
  omega
 ·rw[Nat.div_lt_iff_lt_mul (Nat.pow_pos (by omega)),Nat.mul_comm,← hp];exact hx
theorem qbl (x r n:Nat) (hx:x < 18446744073709551616) (hn0:0<n) (hn:n≤63) (hr:r<2^n):(x/2^n) ||| (r*2^(64-n))=x/2^n+r*2^(64-n)∧x/2^n+r*2^(64-n) < 18446744073709551616∧(x + 18446744073709551616*r)/2^n=x/2^n+r*2^(64-n)∧x*2^(64-n) % 18446744073709551616=(x%2^n)*2^(64-n)∧r*2^(64-n) < 18446744073709551616:=by
 have hp:18446744073709551616=2^(64-n)*2^n:=by rw[← Nat.pow_add,show (64-n)+n=64 from by omega]
 have hb:x/2^n<2^(64-n):=by rw[Nat.div_lt_iff_lt_mul (Nat.pow_pos (by omega)),← hp];exact hx
 have h1:(r+1)*2^(64-n)≤2^n*2^(64-n):=Nat.mul_le_mul_right _ hr
 rw[Nat.mul_comm (2^n),← hp,Nat.add_mul,Nat.one_mul] at h1
 refine⟨?_,?_,?_,?_,?_⟩
 rotate_left
 ·generalize r*2^(64-n)=m at *
  generalize 2^(64-n)=P at *
  omega
 rotate_left
 rotate_left
 ·have hz:0<2^(64-n):=Nat.pow_pos (by omega)
  generalize r*2^(64-n)=m at *
  generalize 2^(64-n)=P at *
  omega
 ·rw[Nat.or_comm,Nat.mul_comm r,← Nat.two_pow_add_eq_or_of_lt hb,Nat.add_comm]
 ·rw[hp,Nat.mul_assoc,Nat.mul_left_comm,Nat.add_mul_div_left _ _ (Nat.pow_pos (by omega)),Nat.mul_comm r]
 ·rw[hp,Nat.mul_comm (2^(64-n)) (2^n),Nat.mul_mod_mul_right]
structure zah (xs rs:List Nat) (n k c:Nat):Prop where
 len:rs.length=xs.length+1
 mem:∀ x ∈ rs,x < 18446744073709551616
 val:vl 18446744073709551616 rs+c * 18446744073709551616^k=2^n*vl 18446744073709551616 (xs.take k)
 zero:∀ j,k≤j→rs[j]?.getD 0=0
theorem zah.start (xs:List Nat) (n:Nat):zah xs (List.replicate (xs.length+1) 0) n 0 0 :=
 ⟨by simp,fun x hx=>by rw[List.mem_replicate] at hx;omega,by simp[ol,vl],fun j _=>by rw[List.getElem?_replicate];split <;> rfl⟩
theorem zah.step {xs rs:List Nat} {n k c:Nat} (h:zah xs rs n k c) (hk:k<xs.length) (s c':Nat) (hs:s < 18446744073709551616) (e:s + 18446744073709551616*c'=xs[k]?.getD 0*2^n+c):zah xs (rs.set k s) n (k+1) c':=by
 have hl:=h.len
 refine⟨by rw[List.length_set];exact hl,mem_set h.mem _ _ hs,?_,fun j hj=>by rw[List.getElem?_set_ne (by omega)];exact h.zero j (by omega)⟩
 have h1:=zuf 18446744073709551616 rs k c s c' (xs[k]?.getD 0*2^n) 0 (2^n*vl 18446744073709551616 (xs.take k)) (by omega) (by rw[h.val,Nat.zero_add]) (by rw[h.zero k (Nat.le_refl _),e,Nat.zero_add])
 rw[h1,Nat.zero_add,jq 18446744073709551616 xs k hk,Nat.mul_add]
 congr 1
 rw[Nat.mul_comm (xs[k]?.getD 0),Nat.mul_assoc]
theorem zah.fin {xs rs:List Nat} {n c:Nat} (h:zah xs rs n xs.length c):vl 18446744073709551616 (rs.set xs.length c)=vl 18446744073709551616 xs*2^n:=by
 have h1:=zfd 18446744073709551616 rs xs.length c (by have:=h.len;omega)
 have h2:=h.val
 rw[h.zero _ (Nat.le_refl _),Nat.zero_mul,Nat.add_zero] at h1
 rw[List.take_length] at h2
 rw[h1,h2,Nat.mul_comm]
theorem zih (v:Value) (X n:Nat) (w:World) (hv:Sl .u64 w v (wd 18446744073709551616 X)) (hl:(wd 18446744073709551616 X).length<1073741824) (hn:n≤63) :
  Calls prog 147 #[v,.int .i64 (n:Int)] w fun e w'=>∃ v',e=.returned v'∧Sl .u64 w' v' (wd 18446744073709551616 (X*2^n))∧But [] w w'∧(v'=v∨Own w.heap.size w' v'):=by
 rcases Nat.eq_zero_or_pos n with h0 | h0
 ·subst h0
  rw[Nat.pow_zero,Nat.mul_one]
  have HV:=hide hv
  obtain⟨a,c,rfl,-,-⟩:=hv
  generalize (wd 18446744073709551616 X).length=l at *
  go_enter func147,ntmps147
  go_wp2
  go_ret
  exact⟨_,rfl,za HV,But.refl _ _,.inl rfl⟩
 ·have nz:((n:Int)==0)=false:=beq_eq_false_iff_ne.2 (by omega)
  have mm:=qy (B:=18446744073709551616) (by omega) X
  have em:=xh (B:=18446744073709551616) (by omega) X
  rcases hv.open with ⟨e,a,c,rfl⟩|⟨hp,b,off,c,rfl,hc,hbl,hcell⟩
  ·have hX:X=0:=(ou (by omega) X).1 e
   subst hX
   rw[Nat.zero_mul,qd]
   clear mm em e hv
   go_enter func147,ntmps147
   go_wp2
   go_ret
   exact⟨_,rfl,⟨a,c,rfl,Nat.zero_le _,fun i hi=>by simp at hi,fun _ _ _ h0=>by simp at h0⟩,But.refl _ _,.inl rfl⟩
  ·generalize wd 18446744073709551616 X=xs at *
   subst em
   have lz0:((xs.length:Int)==0)=false:=beq_eq_false_iff_ne.2 (by omega)
   have hmk:=fun wx=>zde wx xs.length hl
   have HC:=hide hcell
   have MM:=hide mm
   clear hcell mm hv
   go_enter func147,ntmps147
   go_wp2
   go_loopw [6,23] (fun c i wr=>∃ (k cN:Nat) (rs:List Nat),k≤xs.length∧i=.int .i64 k∧c=.int .u64 cN∧cN < 18446744073709551616∧rs.length=xs.length+1∧Hid (zah xs rs n k cN∧cN<2^n∧But [] w wr∧Seg wr w.heap.size 0 rs)) (fun _ i _=>xs.length-(intOf i).toNat)
   case atStart=>exact⟨0,0,List.replicate (xs.length+1) 0,Nat.zero_le _,rfl,rfl,by omega,by simp,zah.start xs n,Nat.pow_pos (by omega),(But.refl _ _).alloc _,Seg.made _ _ _⟩
   case round =>
    obtain⟨k,cN,rs,hk,rfl,rfl,hcN,hrl,HI⟩:=hrel
    rename World=>wr
    by_cases hlt:k<xs.length
    ·have cx:=(za HI).2.2.1.zb (za HC k hlt) (by simp)
     have hxB:xs[k]?.getD 0 < 18446744073709551616:=qg (za MM) (by omega) k
     obtain⟨cr,fr⟩:=(za HI).2.2.2 k (by omega)
     rw[Nat.zero_add] at cr fr
     obtain⟨s1,s2,s3,s4⟩:=qbm _ cN n hxB h0 hn (za HI).2.1
     have ST:=hide ((za HI).1.step hlt _ _ s2 s3)
     have S4:=hide s4
     have hsl:xs[k]?.getD 0/2^(64-n) < 18446744073709551616:=Nat.lt_of_le_of_lt (Nat.div_le_self _ _) hxB
     have E1:bits .or .u64 (IntKind.u64.wrap ((xs[k]?.getD 0:Nat)*2^n)) (cN:Int)=((xs[k]?.getD 0*2^n % 18446744073709551616+cN:Nat):Int):=by
      have e1:IntKind.u64.wrap (((xs[k]?.getD 0:Nat):Int)*2^n)=((xs[k]?.getD 0*2^n % 18446744073709551616:Nat):Int):=by
       have e:((xs[k]?.getD 0:Nat):Int)*2^n=((xs[k]?.getD 0*2^n:Nat):Int):=by simp
       rw[e,IntKind.wrap_u64];omega
      rw[e1,bits_or_u64_nat _ _ (by omega) hcN,s1]
     have E2:((xs[k]?.getD 0:Nat):Int)/2^(64-n)=((xs[k]?.getD 0/2^(64-n):Nat):Int):=by simp
     clear s1 s3 s4
     generalize xs[k]?.getD 0*2^n % 18446744073709551616+cN=s at *
     generalize xs[k]?.getD 0/2^(64-n)=c' at *
     generalize xs[k]?.getD 0=x at *
     generalize rs[k]?.getD 0=r at cr
     have hset:=(za HI).2.2.2.set k (by omega) s
     rw[Nat.zero_add] at hset
     have HSET:=hide hset
     clear hset
     go_wp2
     refine⟨⟨k+1,c',rs.set k s,by omega,by go_num,rfl,hsl,by rw[List.length_set];exact hrl,za ST,za S4,(za HI).2.2.1.setCell (.inr (Nat.le_refl _)) _,za HSET⟩,?_⟩
     simp[intOf];omega
    ·have hke:k=xs.length:=by omega
     subst hke
     have hset:=(za HI).2.2.2.set xs.length (by omega) cN
     obtain⟨cr,fr⟩:=(za HI).2.2.2 xs.length (by omega)
     rw[Nat.zero_add] at cr fr hset
     have hsl:=hset.sl (xs.length+1) (by rw[List.length_set];omega)
     rw[List.length_set,hrl] at hsl
     have HSL:=hide hsl
     have HSG:=hide hset
     have HMM:=hide (mem_set (za HI).1.mem xs.length cN hcN)
     have HF:=hide (za HI).1.fin
     have hln:(rs.set xs.length cN).length<2147483648:=by rw[List.length_set];omega
     have HB:=hide ((za HI).2.2.1.setCell (p:=⟨w.heap.size,xs.length,none⟩) (.inr (Nat.le_refl _)) (.int .u64 (cN:Int)))
     clear hset hsl HC HI
     generalize rs[xs.length]?.getD 0=r at cr
     go_wp2_with fail
     refine (qp _ (rs.set xs.length cN) _ (za HSL) (za HMM) hln).mono ?_
     rintro e w1 ⟨v1,rfl,hv1,hw,hsb⟩
     obtain rfl:=hw.symm
     clear hw
     have OW:=hide (zqi (za HSG) hsb hv1 (zt (by omega) _ _ (tu (by omega) _ (za HMM))) (Nat.le_refl _))
     rw[za HF] at hv1
     have HV1:=hide hv1
     clear hv1 hsb
     go_wp2
     go_ret
     exact⟨v1,rfl,za HV1,za HB,.inr (za OW)⟩
structure oo (xs rs:List Nat) (n k c:Nat):Prop where
 len:rs.length=xs.length
 mem:∀ x ∈ rs,x < 18446744073709551616
 val:vl 18446744073709551616 (rs.drop k)=vl 18446744073709551616 (xs.drop k)/2^n
 car:c=vl 18446744073709551616 (xs.drop k)%2^n*2^(64-n)
theorem oo.start (xs:List Nat) (n:Nat):oo xs (List.replicate xs.length 0) n xs.length 0 :=
 ⟨by simp,fun x hx=>by rw[List.mem_replicate] at hx;omega,by simp[vl],by simp[vl]⟩
theorem oo.step {xs rs:List Nat} {n i c:Nat} (h:oo xs rs n (i+1) c) (hi:i<xs.length) (hn:n≤63) (s c':Nat) (hs:s < 18446744073709551616) (e:(xs[i]?.getD 0 + 18446744073709551616*(vl 18446744073709551616 (xs.drop (i+1))%2^n))/2^n=s) (ec:xs[i]?.getD 0%2^n*2^(64-n)=c'):oo xs (rs.set i s) n i c':=by
 have hp:18446744073709551616=2^n*2^(64-n):=by rw[← Nat.pow_add,show n+(64-n)=64 from by omega]
 have hz:0<2^n:=Nat.pow_pos (by omega)
 refine⟨by rw[List.length_set];exact h.len,mem_set h.mem _ _ hs,?_,?_⟩
 ·rw[set_drop rs i s (by rw[h.len];exact hi),vl,h.val,zjl 18446744073709551616 xs i hi,← e]
  have hd:=Nat.mod_add_div (vl 18446744073709551616 (xs.drop (i+1))) (2^n)
  generalize vl 18446744073709551616 (xs.drop (i+1))=V at *
  have e1:xs[i]?.getD 0 + 18446744073709551616*V=xs[i]?.getD 0 + 18446744073709551616*(V%2^n)+2^n*(18446744073709551616*(V/2^n)):=by
   conv=>lhs;rw[← hd]
   rw[Nat.mul_add,← Nat.add_assoc,Nat.mul_left_comm]
  rw[e1,Nat.add_mul_div_left _ _ hz]
 ·rw[zjl 18446744073709551616 xs i hi,hp,Nat.mul_assoc,Nat.add_mul_mod_self_left,← ec]
theorem oo.fin {xs rs:List Nat} {n c:Nat} (h:oo xs rs n 0 c):vl 18446744073709551616 rs=vl 18446744073709551616 xs/2^n:=h.val
theorem zqk (v:Value) (X n:Nat) (w:World) (hv:Sl .u64 w v (wd 18446744073709551616 X)) (hl:(wd 18446744073709551616 X).length<1073741824) (hn:n≤63) :
  Calls prog 148 #[v,.int .i64 (n:Int)] w fun e w'=>∃ v',e=.returned v'∧Sl .u64 w' v' (wd 18446744073709551616 (X/2^n))∧But [] w w'∧(v'=v∨Own w.heap.size w' v'):=by
 rcases Nat.eq_zero_or_pos n with h0 | h0
 ·subst h0
  rw[Nat.pow_zero,Nat.div_one]
  have HV:=hide hv
  obtain⟨a,c,rfl,-,-⟩:=hv
  generalize (wd 18446744073709551616 X).length=l at *
  go_enter func148,ntmps148
  go_wp2
  go_ret
  exact⟨_,rfl,za HV,But.refl _ _,.inl rfl⟩
 ·have nz:((n:Int)==0)=false:=beq_eq_false_iff_ne.2 (by omega)
  have mm:=qy (B:=18446744073709551616) (by omega) X
  have em:=xh (B:=18446744073709551616) (by omega) X
  rcases hv.open with ⟨e,a,c,rfl⟩|⟨hp,b,off,c,rfl,hc,hbl,hcell⟩
  ·have hX:X=0:=(ou (by omega) X).1 e
   subst hX
   rw[Nat.zero_div,qd]
   clear mm em e hv
   go_enter func148,ntmps148
   go_wp2
   go_ret
   exact⟨_,rfl,⟨a,c,rfl,Nat.zero_le _,fun i hi=>by simp at hi,fun _ _ _ h0=>by simp at h0⟩,But.refl _ _,.inl rfl⟩
  ·generalize wd 18446744073709551616 X=xs at *
   subst em
   have lz0:((xs.length:Int)==0)=false:=beq_eq_false_iff_ne.2 (by omega)
   have hmk:=fun wx=>kz wx xs.length (by omega)
   have HC:=hide hcell
   have MM:=hide mm
   clear hcell mm hv
   go_enter func148,ntmps148
   go_wp2
   go_loopw [6,7] (fun c i wr=>∃ (k cN:Nat) (rs:List Nat),k≤xs.length∧i=.int .i64 ((k:Int)-1)∧c=.int .u64 cN∧cN < 18446744073709551616∧rs.length=xs.length∧Hid (oo xs rs n k cN∧But [] w wr∧Seg wr w.heap.size 0 rs)) (fun _ i _=>(intOf i+1).toNat)
   case atStart=>exact⟨xs.length,0,List.replicate xs.length 0,Nat.le_refl _,rfl,rfl,by omega,by simp,oo.start xs n,(But.refl _ _).alloc _,Seg.made _ _ _⟩
   case round =>
    obtain⟨k,cN,rs,hk,rfl,rfl,hcN,hrl,HI⟩:=hrel
    rename World=>wr
    by_cases hk0:k=0
    ·subst hk0
     have hsl:=(za HI).2.2.sl xs.length (by omega)
     rw[hrl] at hsl
     have HSL:=hide hsl
     have HF:=hide (za HI).1.fin
     have hln:rs.length<2147483648:=by omega
     clear hsl HC
     go_wp2_with fail
     refine (qp _ rs _ (za HSL) (za HI).1.mem hln).mono ?_
     rintro e w1 ⟨v1,rfl,hv1,hw,hsb⟩
     obtain rfl:=hw.symm
     clear hw
     have hown:=zqi (lo:=w.heap.size) (za HI).2.2 hsb hv1 (by have:=zt (B:=18446744073709551616) (by omega) (vl 18446744073709551616 rs) rs.length (tu (by omega) rs (za HI).1.mem);exact this) (Nat.le_refl _)
     rw[za HF] at hv1
     have HV1:=hide hv1
     have HOW:=hide hown
     clear hv1 hown hsb
     go_wp2
     go_ret
     exact⟨v1,rfl,za HV1,(za HI).2.1,.inr (za HOW)⟩
    ·obtain⟨i,rfl⟩:∃ i,k=i+1:=⟨k-1,by omega⟩
     have cx:=(za HI).2.1.zb (za HC i (by omega)) (by simp)
     have hxB:xs[i]?.getD 0 < 18446744073709551616:=qg (za MM) (by omega) i
     obtain⟨cr,fr⟩:=(za HI).2.2 i (by omega)
     rw[Nat.zero_add] at cr fr
     have hc:=(za HI).1.car
     obtain⟨s1,s2,s3,s4,s5⟩:=qbl _ (vl 18446744073709551616 (xs.drop (i+1))%2^n) n hxB h0 hn (Nat.mod_lt _ (Nat.pow_pos (by omega)))
     have ST:=hide ((za HI).1.step (by omega) hn _ _ s2 s3 rfl)
     rw[← hc] at s1 s2 ST
     have E1:bits .or .u64 ((xs[i]?.getD 0:Nat)/2^n) (cN:Int)=((xs[i]?.getD 0/2^n+cN:Nat):Int):=by
      have e:((xs[i]?.getD 0:Nat):Int)/2^n=((xs[i]?.getD 0/2^n:Nat):Int):=by simp
      rw[e,bits_or_u64_nat _ _ (Nat.lt_of_le_of_lt (Nat.div_le_self _ _) hxB) hcN,s1]
     have E2:IntKind.u64.wrap (((xs[i]?.getD 0:Nat):Int)*2^(64-n))=((xs[i]?.getD 0%2^n*2^(64-n):Nat):Int):=by
      have e:((xs[i]?.getD 0:Nat):Int)*2^(64-n)=((xs[i]?.getD 0*2^(64-n):Nat):Int):=by simp
      rw[e,IntKind.wrap_u64,← s4];omega
     have hc'B:xs[i]?.getD 0%2^n*2^(64-n) < 18446744073709551616:=by rw[← s4];omega
     clear s1 s3 s4 s5 hc
     generalize xs[i]?.getD 0%2^n*2^(64-n)=c' at *
     generalize xs[i]?.getD 0/2^n+cN=s at *
     generalize xs[i]?.getD 0=x at *
     generalize rs[i]?.getD 0=r at cr
     have hset:=(za HI).2.2.set i (by omega) s
     rw[Nat.zero_add] at hset
     have HSET:=hide hset
     clear hset
     rw[show (((i+1:Nat):Int)-1)=(i:Int) from by omega]
     go_wp2
     refine⟨⟨i,c',rs.set i s,by omega,rfl,rfl,hc'B,by rw[List.length_set];exact hrl,za ST,(za HI).2.1.setCell (.inr (Nat.le_refl _)) _,za HSET⟩,?_⟩
     simp[intOf]
theorem zcc (u:Nat) (h0:0<u) (hu:u < 18446744073709551616):wd 18446744073709551616 u=[u]:=by rw[zdb (by omega) h0,Nat.mod_eq_of_lt hu,Nat.div_eq_of_lt hu,qd]
theorem jo (u:Nat) (hu:u < 18446744073709551616) (w:World) :
  Calls prog 80 #[.int .u64 u] w fun e w'=>∃ v,e=.returned v∧Sl .u64 w' v (wd 18446744073709551616 u)∧But [] w w'∧Own w.heap.size w' v:=by
 by_cases h0:u=0
 ·subst h0
  go_enter func80,ntmps80
  go_wp2
  go_ret
  exact⟨_,rfl,by rw[qd];exact Sl.nil _ _,But.refl _ _,qil _ _ _⟩
 ·have n0:((u:Int)==0)=false:=by simp;exact h0
  go_enter func80,ntmps80
  go_wp2
  go_ret
  refine⟨_,rfl,?_,(But.refl _ _).alloc _,?_⟩
  ·rw[zcc u (by omega) hu]
   exact Sl.mk (xs:=[u]) w.heap.size 0 1 (by simp) (fun i hi=>by
    have:i=0:=by simpa using hi
    subst this;simp) (fun _ i v hv=>by
    rw[World.cell?_alloc_new] at hv
    rcases i with _ | i
    ·exact⟨u,by simpa using hv.symm⟩
    ·simp at hv)
  ·intro b off n c e
   simp at e
   obtain⟨⟨rfl,rfl,-⟩,-,-⟩:=e
   exact⟨Nat.le_refl _,fun i _=>by simp⟩
theorem zea {w:World} {v:Value} {u:Nat} (h:Sl .u64 w v (wd 18446744073709551616 u)) (hu:u < 18446744073709551616):(u=0∧∃ a c,v=.slice a 0 c)∨(0<u∧∃ b off c,v=.slice (some ⟨b,off,none⟩) 1 c∧w.cell? ⟨b,off,none⟩=some (.int .u64 u)):=by
 rcases Nat.eq_zero_or_pos u with h0 | h0
 ·subst h0
  rw[qd] at h
  obtain⟨a,c,e,-⟩:=h
  exact .inl ⟨rfl,a,c,e⟩
 ·rw[zcc u h0 hu] at h
  rcases h.open with ⟨e,-⟩|⟨-,b,off,c,e,-,-,hc⟩
  ·simp at e
  ·exact .inr ⟨h0,b,off,c,e,hc 0 (by simp)⟩
theorem zcd (u:Nat) (hu:18446744073709551616≤u):2≤(wd 18446744073709551616 u).length:=by
 rcases Nat.lt_or_ge (wd 18446744073709551616 u).length 2 with h | h
 ·have:=zw (B:=18446744073709551616) (by omega) u 1 (by omega)
  omega
 ·exact h
theorem um (v:Value) (u:Nat) (hu:u < 18446744073709551616) (w:World) (hv:Sl .u64 w v (wd 18446744073709551616 u)) :
  Calls prog 81 #[v] w fun e w'=>e=.returned (.tuple #[.int .u64 u,.bool true])∧w'=w:=by
 rcases zea hv hu with ⟨rfl,a,c,rfl⟩|⟨h0,b,off,c,rfl,hc⟩
 ·go_enter func81,ntmps81
  go_wp2
  go_ret2
  exact⟨rfl,rfl⟩
 ·go_enter func81,ntmps81
  go_wp2
  go_ret2
  exact⟨rfl,rfl⟩
theorem om (v:Value) (u:Nat) (hu:18446744073709551616≤u) (w:World) (hv:Sl .u64 w v (wd 18446744073709551616 u)) (hl:(wd 18446744073709551616 u).length<2147483648) :
  Calls prog 81 #[v] w fun e w'=>e=.returned (.tuple #[.int .u64 0,.bool false])∧w'=w:=by
 have h2:=zcd u hu
 obtain⟨a,c,rfl,-,-⟩:=hv
 generalize (wd 18446744073709551616 u).length=l at *
 have n0:((l:Int)==0)=false:=beq_eq_false_iff_ne.2 (by omega)
 have n1:((l:Int)==1)=false:=beq_eq_false_iff_ne.2 (by omega)
 clear hu
 go_enter func81,ntmps81
 go_wp2
 go_ret2
 exact⟨rfl,rfl⟩
theorem fw (v:Value) (u:Nat) (w:World) (hv:Sl .u64 w v (wd 18446744073709551616 u)) (hl:(wd 18446744073709551616 u).length<2147483648) (r:Bool) (hr:Hid (r=decide (u=1))) :
  Calls prog 43 #[v] w fun e w'=>e=.returned (.bool r)∧w'=w:=by
 rcases Nat.lt_or_ge u 18446744073709551616 with hu | hu
 ·rcases zea hv hu with ⟨rfl,a,c,rfl⟩|⟨h0,b,off,c,rfl,hc⟩
  ·have e:Hid (r=false):=by show _=_;rw[za hr];rfl
   clear hr
   go_enter func43,ntmps43
   go_wp2
   go_ret
   exact⟨by rw[za e];rfl,rfl⟩
  ·have e:((u:Int)==1)=r:=by rw[za hr,Bool.eq_iff_iff];simp;omega
   clear hr
   go_enter func43,ntmps43
   go_wp2
   go_ret
   exact⟨rfl,rfl⟩
 ·have e:Hid (r=false):=by show _=_;rw[za hr];simp;omega
  have h2:=zcd u hu
  clear hr hu
  obtain⟨a,c,rfl,-,-⟩:=hv
  generalize (wd 18446744073709551616 u).length=l at *
  have n1:((l:Int)==1)=false:=beq_eq_false_iff_ne.2 (by omega)
  go_enter func43,ntmps43
  go_wp2
  go_ret
  exact⟨by rw[za e];rfl,rfl⟩
theorem gu (s:Bool) (p q:Nat) (hq:q<18446744073709551616) (hq0:0<q) (w:World) :
  Calls prog 76 #[.agg #[.bool s,.int .u64 (p:Int),.int .u64 ((q:Int)-1),.pointer none]] w fun e w'=>e=.returned (.int .u64 (q:Int))∧But [] w w':=by
 go_enter func76,ntmps76
 go_wp2
 go_ret
 exact⟨rfl,(But.refl _ _).alloc _⟩
theorem zko (x:Int) (h1:-9223372036854775808≤x) (h2:x<9223372036854775808) (w:World) :
  Calls prog 44 #[.int .i64 x] w fun e w'=>e=.returned (.int .u64 (x.natAbs:Nat))∧w'=w:=by
 by_cases hx:x<0
 ·have e1:IntKind.u64.wrap (-IntKind.u64.wrap x)=((x.natAbs:Nat):Int):=by rw[IntKind.wrap_u64,IntKind.wrap_u64];omega
  obtain⟨n,hn⟩:∃ n:Nat,n=x.natAbs:=⟨_,rfl⟩
  rw[← hn] at e1 ⊢
  clear hn
  go_enter func44,ntmps44
  go_wp2
  go_ret
  exact⟨rfl,rfl⟩
 ·obtain⟨n,rfl⟩:=Int.eq_ofNat_of_zero_le (Int.not_lt.1 hx)
  rw[Int.natAbs_natCast]
  go_enter func44,ntmps44
  go_wp2
  go_ret
  exact⟨rfl,rfl⟩
theorem uj (s:Bool) (p q:Nat) (hp:p<18446744073709551616) (hq:q<18446744073709551616) (hq0:0<q) (r:Bool) (hr:Hid (r=(s && decide (p≠0)))) (w:World) :
  Calls prog 46 #[.bool s,.int .u64 (p:Int),.int .u64 (q:Int)] w fun e w'=>e=.returned (.agg #[.bool r,.int .u64 (p:Int),.int .u64 ((q:Int)-1),.pointer none])∧But [] w w':=by
 have e:((p:Int) != 0)=decide (p≠0):=by rw[Bool.eq_iff_iff];simp
 by_cases h0:p=0
 ·subst h0
  have er:Hid (r=false):=by show _=_;rw[za hr];simp
  clear hr e
  cases s
  all_goals
   go_enter func46,ntmps46
   go_wp2
   rw[za er]
   exact bodyPost_ret (v:=.agg #[.bool false,.int .u64 ((0:Nat):Int),.int .u64 ((q:Int)-1),.pointer none]) (by simp[results,results46,go_sem]) rfl ⟨rfl,(But.refl _ _).alloc _⟩
 ·have e1:((p:Int) != 0)=true:=by rw[e];simp[h0]
  cases s
  ·have er:Hid (r=false):=by show _=_;rw[za hr];simp
   clear hr e
   go_enter func46,ntmps46
   go_wp2
   rw[za er]
   exact bodyPost_ret (v:=.agg #[.bool false,.int .u64 (p:Int),.int .u64 ((q:Int)-1),.pointer none]) (by simp[results,results46,go_sem]) rfl ⟨rfl,(But.refl _ _).alloc _⟩
  ·have er:Hid (r=true):=by show _=_;rw[za hr];simp[h0]
   clear hr e
   go_enter func46,ntmps46
   go_wp2
   rw[za er]
   exact bodyPost_ret (v:=.agg #[.bool true,.int .u64 (p:Int),.int .u64 ((q:Int)-1),.pointer none]) (by simp[results,results46,go_sem]) rfl ⟨rfl,(But.refl _ _).alloc _⟩
theorem zwf (x y:Int) (hx1:-9223372036854775808≤x) (hx2:x<9223372036854775808) (hy1:-9223372036854775808≤y) (hy2:y<9223372036854775808) (hy0:y≠0) (w:World) (r:Bool) (p q:Nat) (hr:Hid (r=((decide (x<0) != decide (y<0)) && decide (p≠0)))) (hp:Hid (p=x.natAbs/Nat.gcd x.natAbs y.natAbs)) (hq:Hid (q=y.natAbs/Nat.gcd x.natAbs y.natAbs)) :
  Calls prog 22 #[.int .i64 x,.int .i64 y] w fun e w'=>e=.returned (.tuple #[.agg #[.bool r,.int .u64 (p:Int),.int .u64 ((q:Int)-1),.pointer none],.nilIface])∧But [] w w':=by
 have n0:(y==0)=false:=by simp;exact hy0
 obtain⟨g,hg⟩:∃ g,g=Nat.gcd x.natAbs y.natAbs:=⟨_,rfl⟩
 have hg0:0<g:=by rw[hg];exact Nat.gcd_pos_of_pos_right _ (by omega)
 have hgl:g≤y.natAbs:=by rw[hg];exact Nat.gcd_le_right _ (by omega)
 have hp':p=x.natAbs/g:=by rw[hg];exact za hp
 have hq':q=y.natAbs/g:=by rw[hg];exact za hq
 have hp64:p<18446744073709551616:=by rw[hp'];exact Nat.lt_of_le_of_lt (Nat.div_le_self _ _) (by omega)
 have hq64:q<18446744073709551616:=by rw[hq'];exact Nat.lt_of_le_of_lt (Nat.div_le_self _ _) (by omega)
 have hq0:0<q:=by rw[hq'];exact Nat.div_pos hgl hg0
 have hgz:((g:Int)==0)=false:=by simp;omega
 have hg64:g<18446744073709551616:=by omega
 obtain⟨a,ha⟩:∃ a,a=x.natAbs:=⟨_,rfl⟩
 obtain⟨b,hb⟩:∃ b,b=y.natAbs:=⟨_,rfl⟩
 have ha64:a<18446744073709551616:=by omega
 have hb64:b<18446744073709551616:=by omega
 have d1:(a:Int)/(g:Int)=(p:Int):=by rw[hp',← ha,Int.natCast_ediv]
 have d2:(b:Int)/(g:Int)=(q:Int):=by rw[hq',← hb,Int.natCast_ediv]
 have d3:(a:Int).tdiv (g:Int)=(p:Int):=by rw[Int.tdiv_eq_ediv_of_nonneg (by omega)];exact d1
 have d4:(b:Int).tdiv (g:Int)=(q:Int):=by rw[Int.tdiv_eq_ediv_of_nonneg (by omega)];exact d2
 have d5:IntKind.u64.wrap (p:Int)=(p:Int):=by rw[IntKind.wrap_u64];omega
 have d6:IntKind.u64.wrap (q:Int)=(q:Int):=by rw[IntKind.wrap_u64];omega
 have HA:=hide ha
 have HB:=hide hb
 have HG:=hide hg
 clear hp' hq' ha hb hg hgl
 obtain⟨s1,hs1⟩:∃ s1,s1=decide (x<0):=⟨_,rfl⟩
 go_enter func22,ntmps22
 go_wp2_with fail
 refine (zko x hx1 hx2 _).mono ?_
 rintro e w1 ⟨rfl,hw⟩
 obtain rfl:=hw.symm
 clear hw
 rw[← za HA]
 go_wp2_with fail
 refine (zko y hy1 hy2 _).mono ?_
 rintro e w1 ⟨rfl,hw⟩
 obtain rfl:=hw.symm
 clear hw
 rw[← za HB]
 go_wp2_with fail
 refine (xu a b _ ha64 hb64).mono ?_
 rintro e w1 ⟨rfl,k,rfl⟩
 rw[show Nat.gcd a b=g from by rw[za HA,za HB,za HG]]
 go_wp2
 have hb0:But [] w ((w.alloc (.cells #[.bool false,.int .u64 0,.int .u64 0,.pointer none] 35)).drewN k):=((But.refl _ _).alloc _).drewN k
 have c0:((w.alloc (.cells #[.bool false,.int .u64 0,.int .u64 0,.pointer none] 35)).drewN k).cell? ⟨w.heap.size,0,none⟩=some (.bool false):=by simp
 have c1:((w.alloc (.cells #[.bool false,.int .u64 0,.int .u64 0,.pointer none] 35)).drewN k).cell? ⟨w.heap.size,1,none⟩=some (.int .u64 0):=by simp
 have c2:((w.alloc (.cells #[.bool false,.int .u64 0,.int .u64 0,.pointer none] 35)).drewN k).cell? ⟨w.heap.size,2,none⟩=some (.int .u64 0):=by simp
 have c3:((w.alloc (.cells #[.bool false,.int .u64 0,.int .u64 0,.pointer none] 35)).drewN k).cell? ⟨w.heap.size,3,none⟩=some (.pointer none):=by simp
 have hf:∀ j,((w.alloc (.cells #[.bool false,.int .u64 0,.int .u64 0,.pointer none] 35)).drewN k).frozen? ⟨w.heap.size,j,none⟩=false:=by intro j;simp
 have hsz:w.heap.size<((w.alloc (.cells #[.bool false,.int .u64 0,.int .u64 0,.pointer none] 35)).drewN k).heap.size:=by simp
 generalize (w.alloc (.cells #[.bool false,.int .u64 0,.int .u64 0,.pointer none] 35)).drewN k=W at *
 obtain⟨gb,hgb⟩:∃ gb,gb=w.heap.size:=⟨_,rfl⟩
 rw[← hgb] at c0 c1 c2 c3 hf hsz
 rw[← hgb]
 have HGB:=hide hgb
 clear hgb
 go_region_with (go_at_call 46;refine (uj (decide (x<0) != decide (y<0)) p q hp64 hq64 hq0 r hr _).mono ?_;rintro e w1 ⟨rfl,hb1⟩;have B1:But [] W w1:=(by first | exact hb1 | exact (But.refl _ _).drew.trans' hb1);have k0:=B1.zb c0 (by simp);have k1:=B1.zb c1 (by simp);have k2:=B1.zb c2 (by simp);have k3:=B1.zb c3 (by simp);have f0:=(B1.frozen (p:=⟨gb,0,none⟩) hsz (by simp)).trans (hf 0);have f1:=(B1.frozen (p:=⟨gb,1,none⟩) hsz (by simp)).trans (hf 1);have f2:=(B1.frozen (p:=⟨gb,2,none⟩) hsz (by simp)).trans (hf 2);have f3:=(B1.frozen (p:=⟨gb,3,none⟩) hsz (by simp)).trans (hf 3))
 all_goals go_wp2
 all_goals
  have hge:w.heap.size≤gb:=Nat.le_of_eq (za HGB).symm
  exact bodyPost_ret (v:=.tuple #[.agg #[.bool r,.int .u64 (p:Int),.int .u64 ((q:Int)-1),.pointer none],.nilIface]) (by simp[results,results22,go_sem,k0,k1,k2,k3]) rfl ⟨rfl,(((((hb0.trans' B1).setCell (.inr hge) _).setCell (.inr hge) _).setCell (.inr hge) _).setCell (.inr hge) _)⟩
structure Leh (a0 b0 a b xx xy yx yy:Nat) (back:Bool):Prop where
 i1:a*yy+b*xy=a0
 i2:a*yx+b*xx=b0
 det:if back then xy*yx=xx*yy+1 else xx*yy=xy*yx+1
 le:yx≤yy
structure Good (a b xx xy yx yy:Nat):Prop where
 p1:0<xy
 p2:0<yx
 p3:xx≤xy
 p4:yy≤b
 p5:b+(xy+yy)≤a
theorem Leh.start (a b:Nat):Leh a b a b 1 0 0 1 false:=⟨by omega,by omega,by simp,by omega⟩
def Lst (a0 b0 a b xx xy yx yy:Nat) (back:Bool):Prop:=Leh a0 b0 a b xx xy yx yy back∧b≤a∧((xx=1∧xy=0∧yx=0∧yy=1)∨Good a b xx xy yx yy)
theorem Lst.yy {a0 b0 a b xx xy yx yy:Nat} {back:Bool} (h:Lst a0 b0 a b xx xy yx yy back):0<yy:=by
 obtain⟨h1,-,h2 | h2⟩:=h
 ·omega
 ·have:=h1.le;have:=h2.p2;omega
theorem Lst.next {a0 b0 a b xx xy yx yy:Nat} {back:Bool} (h:Lst a0 b0 a b xx xy yx yy back) (q b':Nat) (e:a=q*b+b') (hb':b' < b) :
  Leh a0 b0 b b' yx yy (xx+q*yx) (xy+q*yy) (!back)∧0<xx+q*yx∧yx≤yy:=by
 obtain⟨h1,hba,h2⟩:=h
 have hq:1≤q:=by
  rcases Nat.eq_zero_or_pos q with h0 | h0
  ·subst h0;omega
  ·exact h0
 have hle:xx+q*yx≤xy+q*yy:=by
  rcases h2 with h2 | h2
  ·obtain⟨rfl,rfl,rfl,rfl⟩:=h2;omega
  ·exact Nat.add_le_add h2.p3 (Nat.mul_le_mul_left _ h1.le)
 have hp:0<xx+q*yx:=by
  rcases h2 with h2 | h2
  ·omega
  ·have:=Nat.mul_le_mul hq h2.p2;omega
 refine⟨⟨?_,?_,?_,hle⟩,hp,h1.le⟩
 ·rw[← h1.i1,e];grind
 ·rw[← h1.i2,e];grind
 ·have:=h1.det
  cases back <;> simp at this ⊢ <;> grind
theorem Leh.bound {a0 b0 a b xx xy yx yy:Nat} {back:Bool} (h:Leh a0 b0 a b xx xy yx yy back) (ha:0<a):yy≤a0∧yx≤b0:=by
 have h1:=h.i1
 have h2:=h.i2
 have h3:=Nat.mul_le_mul_right yy ha
 have h4:=Nat.mul_le_mul_right yx ha
 omega
theorem Leh.qgo {a0 b0 a b xx xy yx yy:Nat} {back:Bool} (h:Leh a0 b0 a b xx xy yx yy back) (ha:0<a) (hb:0<b):xy+yy≤a0:=by
 have h1:=h.i1
 have h3:=Nat.mul_le_mul_right yy ha
 have h4:=Nat.mul_le_mul_right xy hb
 omega
theorem Lst.taken {a0 b0 a b xx xy yx yy:Nat} {back:Bool} (h:Lst a0 b0 a b xx xy yx yy back) (q b':Nat) (e:a=q*b+b') (hb':b' < b) (c1:xy+q*yy≤b') (c2:yy+(xy+q*yy)≤b-b'):Lst a0 b0 b b' yx yy (xx+q*yx) (xy+q*yy) (!back):=by
 obtain⟨n1,n2,n3⟩:=h.next q b' e hb'
 exact⟨n1,by omega,.inr ⟨h.yy,n2,n3,c1,by omega⟩⟩
theorem zxp (x y X Y p q r s:Nat) (hx:X*p+Y*q=x) (hy:X*r+Y*s=y) (hd:∀ d,d ∣ x→d ∣ y→d ∣ X∧d ∣ Y):Nat.gcd X Y=Nat.gcd x y:=by
 apply Nat.dvd_antisymm
 ·apply Nat.dvd_gcd
  ·rw[← hx];exact Nat.dvd_add (Nat.dvd_mul_right_of_dvd (Nat.gcd_dvd_left _ _) _) (Nat.dvd_mul_right_of_dvd (Nat.gcd_dvd_right _ _) _)
  ·rw[← hy];exact Nat.dvd_add (Nat.dvd_mul_right_of_dvd (Nat.gcd_dvd_left _ _) _) (Nat.dvd_mul_right_of_dvd (Nat.gcd_dvd_right _ _) _)
 ·obtain⟨h1,h2⟩:=hd _ (Nat.gcd_dvd_left x y) (Nat.gcd_dvd_right x y)
  exact Nat.dvd_gcd h1 h2
theorem Leh.apply {a0 b0 a b xx xy yx yy:Nat} {back:Bool} (h:Leh a0 b0 a b xx xy yx yy back) (g:Good a b xx xy yx yy) (x y K ε δ:Nat) (hx:x=a0*K+ε) (hy:y=b0*K+δ) (hε:ε<K) (hδ:δ<K) :
  ∃ X Y:Nat,(if back then X+xx*x=xy*y∧Y+yy*y=yx*x else X+xy*y=xx*x∧Y+yx*x=yy*y)∧Y<X∧X≤y∧Nat.gcd X Y=Nat.gcd x y:=by
 obtain⟨i1,i2,det,le⟩:=h
 obtain⟨p1,p2,p3,p4,p5⟩:=g
 have m1:yy*δ≤b*K:=Nat.mul_le_mul p4 (Nat.le_of_lt hδ)
 have m2:yx*ε≤b*K:=Nat.mul_le_mul (Nat.le_trans le p4) (Nat.le_of_lt hε)
 have m3:(xy+yy)*(δ+1)≤(a-b)*K:=Nat.mul_le_mul (by omega) hδ
 have m4:(xx+yx)*(ε+1)≤(a-b)*K:=Nat.mul_le_mul (by omega) hε
 have m5:(a-b)*K+b*K=a*K:=by rw[← Nat.add_mul];congr 1;omega
 cases back
 ·simp only[Bool.false_eq_true,if_false] at det ⊢
  have e1:yy*b0=yx*a0+b:=by rw[← i1,← i2];grind
  have e2:xx*a0=xy*b0+a:=by rw[← i1,← i2];grind
  have f1:yy*y=yx*a0*K+b*K+yy*δ:=by rw[hy];grind
  have f2:yx*x=yx*a0*K+yx*ε:=by rw[hx];grind
  have f3:xx*x=xy*b0*K+a*K+xx*ε:=by rw[hx];grind
  have f4:xy*y=xy*b0*K+xy*δ:=by rw[hy];grind
  have g1:(xy+yy)*(δ+1)=xy*δ+yy*δ+xy+yy:=by grind
  obtain⟨Y,hY⟩:∃ Y,Y+yx*x=yy*y:=⟨yy*y-yx*x,by omega⟩
  obtain⟨X,hX⟩:∃ X,X+xy*y=xx*x:=⟨xx*x-xy*y,by omega⟩
  have hYX:Y<X:=by omega
  have hx2:X*yy+Y*xy=x:=by
   have:X*yy+Y*xy+xy*y*yy+yx*x*xy=xx*x*yy+yy*y*xy:=by rw[← hX,← hY];grind
   have e:xx*x*yy=(xy*yx+1)*x:=by rw[← det];grind
   grind
  have hy2:X*yx+Y*xx=y:=by
   have:X*yx+Y*xx+xy*y*yx+yx*x*xx=xx*x*yx+yy*y*xx:=by rw[← hX,← hY];grind
   have e:yy*y*xx=(xy*yx+1)*y:=by rw[← det];grind
   grind
  refine⟨X,Y,⟨hX,hY⟩,hYX,?_,zxp x y X Y yy xy yx xx hx2 hy2 (fun d d1 d2=>⟨?_,?_⟩)⟩
  ·rw[← hy2];have:=Nat.le_mul_of_pos_right X p2;omega
  ·exact (Nat.dvd_add_left (Nat.dvd_mul_left_of_dvd d2 xy)).1 (by rw[hX];exact Nat.dvd_mul_left_of_dvd d1 xx)
  ·exact (Nat.dvd_add_left (Nat.dvd_mul_left_of_dvd d1 yx)).1 (by rw[hY];exact Nat.dvd_mul_left_of_dvd d2 yy)
 ·simp only[if_true] at det ⊢
  have e1:yx*a0=yy*b0+b:=by rw[← i1,← i2];grind
  have e2:xy*b0=xx*a0+a:=by rw[← i1,← i2];grind
  have f1:yx*x=yy*b0*K+b*K+yx*ε:=by rw[hx];grind
  have f2:yy*y=yy*b0*K+yy*δ:=by rw[hy];grind
  have f3:xy*y=xx*a0*K+a*K+xy*δ:=by rw[hy];grind
  have f4:xx*x=xx*a0*K+xx*ε:=by rw[hx];grind
  have g1:(xx+yx)*(ε+1)=xx*ε+yx*ε+xx+yx:=by grind
  obtain⟨Y,hY⟩:∃ Y,Y+yy*y=yx*x:=⟨yx*x-yy*y,by omega⟩
  obtain⟨X,hX⟩:∃ X,X+xx*x=xy*y:=⟨xy*y-xx*x,by omega⟩
  have hYX:Y<X:=by omega
  have hx2:X*yy+Y*xy=x:=by
   have:X*yy+Y*xy+xx*x*yy+yy*y*xy=xy*y*yy+yx*x*xy:=by rw[← hX,← hY];grind
   have e:yx*x*xy=(xx*yy+1)*x:=by rw[← det];grind
   grind
  have hy2:X*yx+Y*xx=y:=by
   have:X*yx+Y*xx+xx*x*yx+yy*y*xx=xy*y*yx+yx*x*xx:=by rw[← hX,← hY];grind
   have e:xy*y*yx=(xx*yy+1)*y:=by rw[← det];grind
   grind
  refine⟨X,Y,⟨hX,hY⟩,hYX,?_,zxp x y X Y yy xy yx xx hx2 hy2 (fun d d1 d2=>⟨?_,?_⟩)⟩
  ·rw[← hy2];have:=Nat.le_mul_of_pos_right X p2;omega
  ·exact (Nat.dvd_add_left (Nat.dvd_mul_left_of_dvd d1 xx)).1 (by rw[hX];exact Nat.dvd_mul_left_of_dvd d2 xy)
  ·exact (Nat.dvd_add_left (Nat.dvd_mul_left_of_dvd d2 yy)).1 (by rw[hY];exact Nat.dvd_mul_left_of_dvd d1 yx)
theorem zik (M a b u v:Nat) (ha:a<M) (hb:b<M) (e:a+M*u=b+M*v):a=b:=by
 have h1:(a+M*u)%M=a:=by rw[Nat.add_mul_mod_self_left,Nat.mod_eq_of_lt ha]
 have h2:(b+M*v)%M=b:=by rw[Nat.add_mul_mod_self_left,Nat.mod_eq_of_lt hb]
 rw[← h1,← h2,e]
theorem zfi (x1 x0 m n l:Nat) (hn:n≤63) (hl:l < 18446744073709551616^m):∃ ε,l + 18446744073709551616^m*(x0 + 18446744073709551616*x1)=(x1*2^n+x0/2^(64-n))*(2^(64-n) * 18446744073709551616^m)+ε∧ε<2^(64-n) * 18446744073709551616^m:=by
 have hp:18446744073709551616=2^n*2^(64-n):=by rw[← Nat.pow_add,show n+(64-n)=64 from by omega]
 have h1:=Nat.div_add_mod x0 (2^(64-n))
 have h2:x0%2^(64-n)+1≤2^(64-n):=Nat.mod_lt _ (Nat.pow_pos (by omega))
 refine⟨x0%2^(64-n) * 18446744073709551616^m+l,?_,?_⟩
 ·have h3:x0 + 18446744073709551616*x1=(x1*2^n+x0/2^(64-n))*2^(64-n)+x0%2^(64-n):=by
   conv=>lhs;rw[← h1]
   rw[hp]
   generalize 2^(64-n)=P
   generalize 2^n=Q
   grind
  rw[h3]
  generalize (x1*2^n+x0/2^(64-n))=A
  generalize 2^(64-n)=P
  generalize x0%P=r
  generalize 18446744073709551616^m=M
  grind
 ·have h3:=Nat.mul_le_mul_right (18446744073709551616^m) h2
  rw[Nat.add_mul,Nat.one_mul] at h3
  omega
theorem zxl (a b K ε δ X Y:Nat) (hX:X=a*K+ε) (hY:Y=b*K+δ) (hε:ε<K) (hle:Y≤X):b≤a:=by
 rcases Nat.lt_or_ge a b with h | h
 ·exfalso
  have:=Nat.mul_le_mul_right K h
  rw[Nat.succ_mul] at this
  omega
 ·exact h
structure kw (ps qs ps' qs':List Nat) (c1 c2 c3 c4 k up dn lf rt bo ow:Nat):Prop where
 lp:ps'.length=ps.length
 lq:qs'.length=qs.length
 mp:∀ x ∈ ps',x < 18446744073709551616
 mq:∀ x ∈ qs',x < 18446744073709551616
 dp:ps'.drop k=ps.drop k
 dq:qs'.drop k=qs.drop k
 v1:vl 18446744073709551616 (ps'.take k)+c2*vl 18446744073709551616 (qs.take k)+up * 18446744073709551616^k=c1*vl 18446744073709551616 (ps.take k)+(dn+bo) * 18446744073709551616^k
 v2:vl 18446744073709551616 (qs'.take k)+c3*vl 18446744073709551616 (ps.take k)+rt * 18446744073709551616^k=c4*vl 18446744073709551616 (qs.take k)+(lf+ow) * 18446744073709551616^k
theorem kw.start (ps qs:List Nat) (c1 c2 c3 c4:Nat) (hp:∀ x ∈ ps,x < 18446744073709551616) (hq:∀ x ∈ qs,x < 18446744073709551616):kw ps qs ps qs c1 c2 c3 c4 0 0 0 0 0 0 0 :=
 ⟨rfl,rfl,hp,hq,rfl,rfl,by simp[vl],by simp[vl]⟩
theorem zgi (xs ys:List Nat) (k:Nat) (h:xs.drop k=ys.drop k):xs[k]?.getD 0=ys[k]?.getD 0:=by
 have:=congrArg (fun l:List Nat=>l[0]?.getD 0) h
 simpa [List.getElem?_drop] using this
theorem take_set (rs:List Nat) (k s:Nat) (h:k<rs.length):(rs.set k s).take (k+1)=rs.take k++[s]:=by
 rw[zal _ k (by rw[List.length_set];exact h),List.getElem?_set_self h,List.take_set_of_le (Nat.le_refl k)];rfl
theorem zpf (rs:List Nat) (k s:Nat):(rs.set k s).drop (k+1)=rs.drop (k+1):=List.drop_set_of_lt (by omega)
theorem zwz (rs:List Nat) (k s:Nat) (h:k<rs.length):vl 18446744073709551616 ((rs.set k s).take (k+1))=vl 18446744073709551616 (rs.take k)+s * 18446744073709551616^k:=by
 rw[take_set rs k s h,qj,vl,vl,List.length_take,Nat.min_eq_left (by omega)]
 simp[Nat.mul_comm]
theorem kw.step {ps qs ps' qs':List Nat} {c1 c2 c3 c4 k up dn lf rt bo ow:Nat} (h:kw ps qs ps' qs' c1 c2 c3 c4 k up dn lf rt bo ow) (hk:k<ps.length) (hl:ps.length=qs.length) (s1 s2 up' dn' lf' rt' bo' ow' p1 m1 p2 m2:Nat) (hs1:s1 < 18446744073709551616) (hs2:s2 < 18446744073709551616)
  (e1:c1*ps[k]?.getD 0+up=p1 + 18446744073709551616*up') (e2:c2*qs[k]?.getD 0+dn=m1 + 18446744073709551616*dn') (e3:s1+m1+bo=p1 + 18446744073709551616*bo')
  (e4:c4*qs[k]?.getD 0+rt=p2 + 18446744073709551616*rt') (e5:c3*ps[k]?.getD 0+lf=m2 + 18446744073709551616*lf') (e6:s2+m2+ow=p2 + 18446744073709551616*ow') :
  kw ps qs (ps'.set k s1) (qs'.set k s2) c1 c2 c3 c4 (k+1) up' dn' lf' rt' bo' ow':=by
 have a1:=h.lp
 have a2:=h.lq
 have d1:ps'.drop (k+1)=ps.drop (k+1):=by have:=congrArg (List.drop 1) h.dp;rwa [List.drop_drop,List.drop_drop] at this
 have d2:qs'.drop (k+1)=qs.drop (k+1):=by have:=congrArg (List.drop 1) h.dq;rwa [List.drop_drop,List.drop_drop] at this
 refine⟨by rw[List.length_set];exact a1,by rw[List.length_set];exact a2,mem_set h.mp _ _ hs1,mem_set h.mq _ _ hs2,by rw[zpf];exact d1,by rw[zpf];exact d2,?_,?_⟩
 ·rw[zwz _ _ _ (by omega),jq 18446744073709551616 qs k (by omega),jq 18446744073709551616 ps k hk,Nat.pow_succ]
  have hv:=h.v1
  generalize vl 18446744073709551616 (ps'.take k)=A at *
  generalize vl 18446744073709551616 (qs.take k)=Q at *
  generalize vl 18446744073709551616 (ps.take k)=P at *
  generalize 18446744073709551616^k=M at *
  generalize ps[k]?.getD 0=a at *
  generalize qs[k]?.getD 0=b at *
  have f:(s1+c2*b + 18446744073709551616*up' + dn+bo)*M=(c1*a + 18446744073709551616*dn' + 18446744073709551616*bo' + up)*M:=by congr 1;omega
  grind
 ·rw[zwz _ _ _ (by omega),jq 18446744073709551616 qs k (by omega),jq 18446744073709551616 ps k hk,Nat.pow_succ]
  have hv:=h.v2
  generalize vl 18446744073709551616 (qs'.take k)=A at *
  generalize vl 18446744073709551616 (qs.take k)=Q at *
  generalize vl 18446744073709551616 (ps.take k)=P at *
  generalize 18446744073709551616^k=M at *
  generalize ps[k]?.getD 0=a at *
  generalize qs[k]?.getD 0=b at *
  have f:(s2+c3*a + 18446744073709551616*rt' + lf+ow)*M=(c4*b + 18446744073709551616*lf' + 18446744073709551616*ow' + rt)*M:=by congr 1;omega
  grind
theorem kw.fin {ps qs ps' qs':List Nat} {c1 c2 c3 c4 up dn lf rt bo ow:Nat} (h:kw ps qs ps' qs' c1 c2 c3 c4 ps.length up dn lf rt bo ow) (hl:ps.length=qs.length) (P' Q' X Y hp hq:Nat)
  (eP:P'=vl 18446744073709551616 ps + 18446744073709551616^ps.length*hp) (eQ:Q'=vl 18446744073709551616 qs + 18446744073709551616^ps.length*hq) (eX:X+c2*Q'=c1*P') (eY:Y+c3*P'=c4*Q') (hX:X < 18446744073709551616^ps.length) (hY:Y < 18446744073709551616^ps.length):vl 18446744073709551616 ps'=X∧vl 18446744073709551616 qs'=Y:=by
 have h1:=h.v1
 have h2:=h.v2
 have b1:=tu (by omega:0 < 18446744073709551616) ps' h.mp
 have b2:=tu (by omega:0 < 18446744073709551616) qs' h.mq
 have a1:=h.lp
 have a2:=h.lq
 rw[a1] at b1
 rw[a2,← hl] at b2
 rw[List.take_of_length_le (by omega),List.take_of_length_le (by omega),List.take_of_length_le (by omega)] at h1 h2
 generalize 18446744073709551616^ps.length=M at *
 generalize vl 18446744073709551616 ps'=A at *
 generalize vl 18446744073709551616 qs'=C at *
 generalize vl 18446744073709551616 ps=P at *
 generalize vl 18446744073709551616 qs=Q at *
 subst eP eQ
 exact⟨zik M A X (up+c1*hp) (dn+bo+c2*hq) b1 hX (by grind),zik M C Y (rt+c4*hq) (lf+ow+c3*hp) b2 hY (by grind)⟩
theorem zom (x:Int) (h1:-9223372036854775808≤x) (h2:x<9223372036854775808) (w:World) :
  Calls prog 58 #[.int .i64 x] w fun e w'=>e=.returned (.agg #[.bool (decide (x<0)),.int .u64 ((x.natAbs:Nat):Int),.int .u64 (((1:Nat):Int)-1),.pointer none])∧But [] w w':=by
 obtain⟨s,hs⟩:∃ s,s=decide (x<0):=⟨_,rfl⟩
 obtain⟨n,hn⟩:∃ n,n=x.natAbs:=⟨_,rfl⟩
 rw[← hs,← hn]
 have HS:=hide hs
 have HN:=hide hn
 go_enter func58,ntmps58
 go_wp2_with fail
 refine (zko x h1 h2 _).mono ?_
 rintro e w1 ⟨rfl,hw⟩
 obtain rfl:=hw.symm
 go_wp2
 exact bodyPost_ret (v:=.agg #[.bool (decide (x<0)),.int .u64 ((x.natAbs:Nat):Int),.int .u64 0,.pointer none]) (by simp[results,results58,go_sem]) rfl ⟨by rw[za HS,za HN];rfl,(But.refl _ _).alloc _⟩
theorem zfa (n:Nat) (hn:n<9223372036854775808) (w:World) :
  Calls prog 60 #[.agg #[.bool false,.int .u64 (n:Int),.int .u64 0,.pointer none]] w fun e w'=>e=.returned (.tuple #[.int .i64 (n:Int),.bool true])∧But [] w w':=by
 have hw:IntKind.i64.wrap (n:Int)=(n:Int):=by rw[IntKind.wrap_i64];omega
 have hc:(n:Int)<9223372036854775808:=by omega
 go_enter func60,ntmps60
 go_wp2
 go_ret2
 exact⟨rfl,(But.refl _ _).alloc _⟩
end Go.Proofs.YtcgecpoedojhjaaGreatDoor
