/- The lower and the higher words of a whole number, as the Go text of package nat takes them. -/
import Derived.Test.YtndcigdphgojpaaGreatDoorKTN6
namespace Go.Proofs.YtndcigdphgojpaaGreatDoor
open Go.RowKit

theorem wd_drop (n X : Nat) : (wd 18446744073709551616 X).drop n = wd 18446744073709551616 (X / 18446744073709551616 ^ n):=by
 induction n generalizing X with
 | zero => simp
 | succ n ih =>
  rcases Nat.eq_zero_or_pos X with h | h
  ·subst h; simp [wd_zero]
  ·rw [wd_pos (by omega) h,List.drop_succ_cons,ih,Nat.div_div_eq_div_mul,Nat.pow_succ,Nat.mul_comm 18446744073709551616]
theorem vl_mod (xs : List Nat) (n : Nat) (h : ∀ x ∈ xs,x < 18446744073709551616) : vl 18446744073709551616 (xs.take n) = vl 18446744073709551616 xs % 18446744073709551616 ^ n:=by
 have h1 : vl 18446744073709551616 xs = vl 18446744073709551616 (xs.take n) + 18446744073709551616 ^ (xs.take n).length * vl 18446744073709551616 (xs.drop n):=by rw [← vl_append,List.take_append_drop]
 have h2:=vl_lt (by omega : 0 < 18446744073709551616) (xs.take n) (fun x hx => h x (List.mem_of_mem_take hx))
 rcases Nat.lt_or_ge n xs.length with hn | hn
 ·have e : (xs.take n).length = n:=by rw [List.length_take]; omega
  rw [e] at h1 h2
  rw [h1,Nat.add_mul_mod_self_left,Nat.mod_eq_of_lt h2]
 ·rw [List.take_of_length_le hn] at h2 ⊢
  rw [Nat.mod_eq_of_lt (Nat.lt_of_lt_of_le h2 (Nat.pow_le_pow_right (by omega) hn))]
theorem wd_take (n X : Nat) : vl 18446744073709551616 ((wd 18446744073709551616 X).take n) = X % 18446744073709551616 ^ n:=by rw [vl_mod _ _ (wd_mem (by omega) X),vl_wd (by omega)]
theorem wd_len_div (n X : Nat) : (wd 18446744073709551616 (X / 18446744073709551616 ^ n)).length = (wd 18446744073709551616 X).length - n:=by rw [← wd_drop,List.length_drop]
theorem wd_len_mod (n X : Nat) : (wd 18446744073709551616 (X % 18446744073709551616 ^ n)).length ≤ n:=wd_length_le (by omega) _ _ (Nat.mod_lt _ (Nat.pow_pos (by omega)))
theorem wd_len_mono {X Y : Nat} (h : X ≤ Y) : (wd 18446744073709551616 X).length ≤ (wd 18446744073709551616 Y).length:=wd_length_le (by omega) X _ (Nat.lt_of_le_of_lt h (lt_of_wd_length (by omega) Y _ (Nat.le_refl _)))
theorem wd_len_mod' (n X : Nat) : (wd 18446744073709551616 (X % 18446744073709551616 ^ n)).length ≤ (wd 18446744073709551616 X).length:=wd_len_mono (Nat.mod_le _ _)
theorem Sl.take {k : IntKind} {w : World} {b off cap : Nat} {xs : List Nat} (h : Sl k w (.slice (some ⟨b,off,none⟩) xs.length cap) xs) (n c : Nat) (hn : n ≤ xs.length) (hc : n ≤ c) : Sl k w (.slice (some ⟨b,off,none⟩) n c) (xs.take n):=by
 have hl : (xs.take n).length = n:=by rw [List.length_take]; omega
 have hI:=h.ints
 obtain ⟨a,cap',e,-,h1,-⟩:=h
 have h2:=Sl.mk (k:=k) (w:=w) (xs:=xs.take n) b off c (by omega) (fun i hi => by
  obtain ⟨b2,off2,e2,h3⟩:=h1 i (by omega)
  simp only [Value.slice.injEq] at e
  obtain ⟨rfl,-,-⟩:=e
  simp only [Option.some.injEq,Addr.mk.injEq] at e2
  obtain ⟨rfl,rfl,-⟩:=e2
  rw [take_getD xs n i (by omega)]; exact h3) (fun h0 => hI (by omega))
 rw [hl] at h2
 exact h2
theorem Sl.drop {k : IntKind} {w : World} {b off cap : Nat} {xs : List Nat} (h : Sl k w (.slice (some ⟨b,off,none⟩) xs.length cap) xs) (n m c : Nat) (hm : m = xs.length - n) (hc : m ≤ c) : Sl k w (.slice (some ⟨b,off + n,none⟩) m c) (xs.drop n):=by
 have hl : (xs.drop n).length = m:=by rw [List.length_drop]; omega
 have hI:=h.ints
 obtain ⟨a,cap',e,-,h1,-⟩:=h
 have h2:=Sl.mk (k:=k) (w:=w) (xs:=xs.drop n) b (off + n) c (by omega) (fun i hi => by
  obtain ⟨b2,off2,e2,h3⟩:=h1 (n + i) (by omega)
  simp only [Value.slice.injEq] at e
  obtain ⟨rfl,-,-⟩:=e
  simp only [Option.some.injEq,Addr.mk.injEq] at e2
  obtain ⟨rfl,rfl,-⟩:=e2
  rw [List.getElem?_drop,Nat.add_assoc]; exact h3) (fun h0 => hI (by omega))
 rw [hl] at h2
 exact h2

set_option maxHeartbeats 1000000 in
set_option maxRecDepth 100000 in
theorem natLow_any (v : Value) (X n : Nat) (w : World) (hv : Sl .u64 w v (wd 18446744073709551616 X)) (hl : (wd 18446744073709551616 X).length < 2147483648) (hn : n < 2147483648) :
  Calls Tryz.prog 101 #[v,.int .i64 (n : Int)] w fun e w' => ∃ v',e = .returned v'∧Sl .u64 w v' (wd 18446744073709551616 (X % 18446744073709551616 ^ n))∧w' = w:=by
 by_cases hle : (wd 18446744073709551616 X).length ≤ n
 ·have e : X % 18446744073709551616 ^ n = X:=Nat.mod_eq_of_lt (lt_of_wd_length (by omega) X n hle)
  rw [e]
  have HV:=hide hv
  obtain ⟨a,c,rfl,-,-⟩:=hv
  clear e
  generalize (wd 18446744073709551616 X).length = l at *
  go_enter Tryz.func101,Tryz.ntmps101
  go_wp2
  go_ret
  exact ⟨_,rfl,unhide HV,rfl⟩
 ·rcases hv.open with ⟨e,-⟩ | ⟨h0,b,off,c,rfl,hc,-,-⟩
  ·rw [e] at hle; simp at hle
  have ht:=trimmed_any (.slice (some ⟨b,off,none⟩) n c) ((wd 18446744073709551616 X).take n) w (hv.take n c (by omega) (by omega)) (fun x hx => wd_mem (by omega) X x (List.mem_of_mem_take hx)) (by rw [List.length_take]; omega)
  rw [wd_take] at ht
  have HT:=hide ht
  clear ht hv
  generalize (wd 18446744073709551616 X).length = l at *
  have hnl : n < l:=by omega
  have hnc : n ≤ c:=by omega
  go_enter Tryz.func101,Tryz.ntmps101
  go_wp2_with fail
  refine (unhide HT).mono ?_
  rintro e w1 ⟨v',rfl,h1,hw,-⟩
  obtain rfl:=hw.symm
  clear hw
  have H1:=hide h1
  clear h1
  go_wp2
  go_ret
  exact ⟨v',rfl,unhide H1,rfl⟩

set_option maxHeartbeats 1000000 in
set_option maxRecDepth 100000 in
theorem natHigh_any (v : Value) (X n : Nat) (w : World) (hv : Sl .u64 w v (wd 18446744073709551616 X)) (_hl : (wd 18446744073709551616 X).length < 2147483648) (hn : n < 2147483648) :
  Calls Tryz.prog 103 #[v,.int .i64 (n : Int)] w fun e w' => ∃ v',e = .returned v'∧Sl .u64 w v' (wd 18446744073709551616 (X / 18446744073709551616 ^ n))∧w' = w:=by
 by_cases hle : (wd 18446744073709551616 X).length ≤ n
 ·have e : X / 18446744073709551616 ^ n = 0:=Nat.div_eq_of_lt (lt_of_wd_length (by omega) X n hle)
  rw [e,wd_zero]
  obtain ⟨a,c,rfl,-,-⟩:=hv
  clear e
  generalize (wd 18446744073709551616 X).length = l at *
  go_enter Tryz.func103,Tryz.ntmps103
  go_wp2
  go_ret
  exact ⟨_,rfl,Sl.nil _ _,rfl⟩
 ·rcases hv.open with ⟨e,-⟩ | ⟨h0,b,off,c,rfl,hc,-,-⟩
  ·rw [e] at hle; simp at hle
  have HR:=hide (hv.drop n ((wd 18446744073709551616 X).length - n) (c - n) rfl (by omega))
  rw [wd_drop] at HR
  clear hv
  generalize (wd 18446744073709551616 X).length = l at *
  have hnl : n < l:=by omega
  have hnc : n < c:=by omega
  go_enter Tryz.func103,Tryz.ntmps103
  go_wp2
  go_ret
  exact ⟨_,rfl,unhide HR,rfl⟩
end Go.Proofs.YtndcigdphgojpaaGreatDoor

namespace Go.Proofs.YtndcigdphgojpaaGreatDoor
open Go.RowKit

/-- a row of a call's own: from block lo on, and to be written into -/
def Own (lo : Nat) (w : World) (v : Value) : Prop:=∀ b off n c,v = .slice (some ⟨b,off,none⟩) n c→lo ≤ b∧∀ i,i < n→w.frozen? ⟨b,off + i,none⟩ = false
theorem own_of {w : World} {g lo n c : Nat} {rs ys : List Nat} {v : Value} (hs : Seg w g 0 rs) (hb : SameBase (.slice (some ⟨g,0,none⟩) n c) v) (hv : Sl .u64 w v ys) (hl : ys.length ≤ rs.length) (hg : lo ≤ g) : Own lo w v:=fun b off m c' e => by
 obtain ⟨n',c'',e'⟩:=hb b off m c' e
 simp only [Value.slice.injEq,Option.some.injEq,Addr.mk.injEq] at e'
 obtain ⟨⟨rfl,rfl,-⟩,-,-⟩:=e'
 obtain ⟨a,cap,e2,-,-⟩:=hv
 rw [e] at e2
 simp only [Value.slice.injEq] at e2
 obtain ⟨-,rfl,-⟩:=e2
 exact ⟨hg,fun i hi => (hs i (by omega)).2⟩
theorem Own.mono {lo lo' : Nat} {w : World} {v : Value} (h : Own lo w v) (hl : lo' ≤ lo) : Own lo' w v:=fun b off n c e => ⟨Nat.le_trans hl (h b off n c e).1,(h b off n c e).2⟩
theorem own_nil (lo : Nat) (w : World) (c : Nat) : Own lo w (.slice none 0 c):=fun b off n c e => by simp at e

theorem set_drop (rs : List Nat) (i s : Nat) (h : i < rs.length) : (rs.set i s).drop i = s :: rs.drop (i + 1):=by
 rw [List.drop_eq_getElem_cons (by rw [List.length_set]; exact h),List.getElem_set_self,List.drop_set]
 simp
theorem shl_word (x c n : Nat) (hx : x < 18446744073709551616) (hn0 : 0 < n) (hn : n ≤ 63) (hc : c < 2 ^ n) : (x * 2 ^ n % 18446744073709551616) ||| c = x * 2 ^ n % 18446744073709551616 + c∧x * 2 ^ n % 18446744073709551616 + c < 18446744073709551616∧x * 2 ^ n % 18446744073709551616 + c + 18446744073709551616 * (x / 2 ^ (64 - n)) = x * 2 ^ n + c∧x / 2 ^ (64 - n) < 2 ^ n:=by
 have hp : 18446744073709551616 = 2 ^ (64 - n) * 2 ^ n:=by rw [← Nat.pow_add,show (64 - n) + n = 64 from by omega]
 have e0 : x * 2 ^ n % 18446744073709551616 = x % 2 ^ (64 - n) * 2 ^ n:=by rw [hp,Nat.mul_mod_mul_right]
 have e1 : x * 2 ^ n / 18446744073709551616 = x / 2 ^ (64 - n):=by rw [hp,Nat.mul_div_mul_right _ _ (Nat.pow_pos (by omega))]
 have h1 : x % 2 ^ (64 - n) + 1 ≤ 2 ^ (64 - n):=Nat.mod_lt _ (Nat.pow_pos (by omega))
 have h2:=Nat.mul_le_mul_right (2 ^ n) h1
 rw [← hp,Nat.add_mul,Nat.one_mul] at h2
 have h3:=Nat.div_add_mod (x * 2 ^ n) 18446744073709551616
 rw [e1] at h3
 refine ⟨?_,?_,?_,?_⟩
 ·rw [e0,Nat.mul_comm,Nat.two_pow_add_eq_or_of_lt hc]
 ·rw [e0]
  generalize x % 2 ^ (64 - n) * 2 ^ n = m at *
  generalize 2 ^ n = P at *
  omega
 ·generalize x * 2 ^ n = z at *
  generalize x / 2 ^ (64 - n) = y at *
  omega
 ·rw [Nat.div_lt_iff_lt_mul (Nat.pow_pos (by omega)),Nat.mul_comm,← hp]; exact hx
theorem shr_word (x r n : Nat) (hx : x < 18446744073709551616) (hn0 : 0 < n) (hn : n ≤ 63) (hr : r < 2 ^ n) : (x / 2 ^ n) ||| (r * 2 ^ (64 - n)) = x / 2 ^ n + r * 2 ^ (64 - n)∧x / 2 ^ n + r * 2 ^ (64 - n) < 18446744073709551616∧(x + 18446744073709551616 * r) / 2 ^ n = x / 2 ^ n + r * 2 ^ (64 - n)∧x * 2 ^ (64 - n) % 18446744073709551616 = (x % 2 ^ n) * 2 ^ (64 - n)∧r * 2 ^ (64 - n) < 18446744073709551616:=by
 have hp : 18446744073709551616 = 2 ^ (64 - n) * 2 ^ n:=by rw [← Nat.pow_add,show (64 - n) + n = 64 from by omega]
 have hb : x / 2 ^ n < 2 ^ (64 - n):=by rw [Nat.div_lt_iff_lt_mul (Nat.pow_pos (by omega)),← hp]; exact hx
 have h1 : (r + 1) * 2 ^ (64 - n) ≤ 2 ^ n * 2 ^ (64 - n):=Nat.mul_le_mul_right _ hr
 rw [Nat.mul_comm (2 ^ n),← hp,Nat.add_mul,Nat.one_mul] at h1
 refine ⟨?_,?_,?_,?_,?_⟩
 rotate_left
 ·generalize r * 2 ^ (64 - n) = m at *
  generalize 2 ^ (64 - n) = P at *
  omega
 rotate_left
 rotate_left
 ·have hz : 0 < 2 ^ (64 - n):=Nat.pow_pos (by omega)
  generalize r * 2 ^ (64 - n) = m at *
  generalize 2 ^ (64 - n) = P at *
  omega
 ·rw [Nat.or_comm,Nat.mul_comm r,← Nat.two_pow_add_eq_or_of_lt hb,Nat.add_comm]
 ·rw [hp,Nat.mul_assoc,Nat.mul_left_comm,Nat.add_mul_div_left _ _ (Nat.pow_pos (by omega)),Nat.mul_comm r]
 ·rw [hp,Nat.mul_comm (2 ^ (64 - n)) (2 ^ n),Nat.mul_mod_mul_right]

structure LeftInv (xs rs : List Nat) (n k c : Nat) : Prop where
 len : rs.length = xs.length + 1
 mem : ∀ x ∈ rs,x < 18446744073709551616
 val : vl 18446744073709551616 rs + c * 18446744073709551616 ^ k = 2 ^ n * vl 18446744073709551616 (xs.take k)
 zero : ∀ j,k ≤ j→rs[j]?.getD 0 = 0
theorem LeftInv.start (xs : List Nat) (n : Nat) : LeftInv xs (List.replicate (xs.length + 1) 0) n 0 0 :=
 ⟨by simp,fun x hx => by rw [List.mem_replicate] at hx; omega,by simp [vl_replicate,vl],fun j _ => by rw [List.getElem?_replicate]; split <;> rfl⟩
theorem LeftInv.step {xs rs : List Nat} {n k c : Nat} (h : LeftInv xs rs n k c) (hk : k < xs.length) (s c' : Nat) (hs : s < 18446744073709551616) (e : s + 18446744073709551616 * c' = xs[k]?.getD 0 * 2 ^ n + c) : LeftInv xs (rs.set k s) n (k + 1) c':=by
 have hl:=h.len
 refine ⟨by rw [List.length_set]; exact hl,mem_set h.mem _ _ hs,?_,fun j hj => by rw [List.getElem?_set_ne (by omega)]; exact h.zero j (by omega)⟩
 have h1:=add_step 18446744073709551616 rs k c s c' (xs[k]?.getD 0 * 2 ^ n) 0 (2 ^ n * vl 18446744073709551616 (xs.take k)) (by omega) (by rw [h.val,Nat.zero_add]) (by rw [h.zero k (Nat.le_refl _),e,Nat.zero_add])
 rw [h1,Nat.zero_add,vl_take_succ 18446744073709551616 xs k hk,Nat.mul_add]
 congr 1
 rw [Nat.mul_comm (xs[k]?.getD 0),Nat.mul_assoc]
theorem LeftInv.fin {xs rs : List Nat} {n c : Nat} (h : LeftInv xs rs n xs.length c) : vl 18446744073709551616 (rs.set xs.length c) = vl 18446744073709551616 xs * 2 ^ n:=by
 have h1:=vl_set 18446744073709551616 rs xs.length c (by have:=h.len; omega)
 have h2:=h.val
 rw [h.zero _ (Nat.le_refl _),Nat.zero_mul,Nat.add_zero] at h1
 rw [List.take_length] at h2
 rw [h1,h2,Nat.mul_comm]

set_option maxHeartbeats 2000000 in
set_option maxRecDepth 100000 in
theorem natLeft_any (v : Value) (X n : Nat) (w : World) (hv : Sl .u64 w v (wd 18446744073709551616 X)) (hl : (wd 18446744073709551616 X).length < 1073741824) (hn : n ≤ 63) :
  Calls Tryz.prog 98 #[v,.int .i64 (n : Int)] w fun e w' => ∃ v',e = .returned v'∧Sl .u64 w' v' (wd 18446744073709551616 (X * 2 ^ n))∧But [] w w'∧(v' = v ∨ Own w.heap.size w' v'):=by
 rcases Nat.eq_zero_or_pos n with h0 | h0
 ·subst h0
  rw [Nat.pow_zero,Nat.mul_one]
  have HV:=hide hv
  obtain ⟨a,c,rfl,-,-⟩:=hv
  generalize (wd 18446744073709551616 X).length = l at *
  go_enter Tryz.func98,Tryz.ntmps98
  go_wp2
  go_ret
  exact ⟨_,rfl,unhide HV,But.refl _ _,.inl rfl⟩
 ·have nz : ((n : Int) == 0) = false:=beq_eq_false_iff_ne.2 (by omega)
  have mm:=wd_mem (B:=18446744073709551616) (by omega) X
  have em:=vl_wd (B:=18446744073709551616) (by omega) X
  rcases hv.open with ⟨e,a,c,rfl⟩ | ⟨hp,b,off,c,rfl,hc,hbl,hcell⟩
  ·have hX : X = 0:=(wd_nil_iff (by omega) X).1 e
   subst hX
   rw [Nat.zero_mul,wd_zero]
   clear mm em e hv
   go_enter Tryz.func98,Tryz.ntmps98
   go_wp2
   go_ret
   exact ⟨_,rfl,⟨a,c,rfl,Nat.zero_le _,fun i hi => by simp at hi,fun _ _ _ h0 => by simp at h0⟩,But.refl _ _,.inl rfl⟩
  ·generalize wd 18446744073709551616 X = xs at *
   subst em
   have lz0 : ((xs.length : Int) == 0) = false:=beq_eq_false_iff_ne.2 (by omega)
   have hmk:=fun wx => run_make64s wx xs.length hl
   have HC:=hide hcell
   have MM:=hide mm
   clear hcell mm hv
   go_enter Tryz.func98,Tryz.ntmps98
   go_wp2
   go_loopw [6,23] (fun c i wr => ∃ (k cN : Nat) (rs : List Nat),k ≤ xs.length∧i = .int .i64 k∧c = .int .u64 cN∧cN < 18446744073709551616∧rs.length = xs.length + 1∧Hid (LeftInv xs rs n k cN∧cN < 2 ^ n∧But [] w wr∧Seg wr w.heap.size 0 rs)) (fun _ i _ => xs.length - (intOf i).toNat)
   case atStart => exact ⟨0,0,List.replicate (xs.length + 1) 0,Nat.zero_le _,rfl,rfl,by omega,by simp,LeftInv.start xs n,Nat.pow_pos (by omega),(But.refl _ _).alloc _,Seg.made _ _ _⟩
   case round =>
    obtain ⟨k,cN,rs,hk,rfl,rfl,hcN,hrl,HI⟩:=hrel
    rename World => wr
    by_cases hlt : k < xs.length
    ·have cx:=(unhide HI).2.2.1.cell_some (unhide HC k hlt) (by simp)
     have hxB : xs[k]?.getD 0 < 18446744073709551616:=mem_getD (unhide MM) (by omega) k
     obtain ⟨cr,fr⟩:=(unhide HI).2.2.2 k (by omega)
     rw [Nat.zero_add] at cr fr
     obtain ⟨s1,s2,s3,s4⟩:=shl_word _ cN n hxB h0 hn (unhide HI).2.1
     have ST:=hide ((unhide HI).1.step hlt _ _ s2 s3)
     have S4:=hide s4
     have hsl : xs[k]?.getD 0 / 2 ^ (64 - n) < 18446744073709551616:=Nat.lt_of_le_of_lt (Nat.div_le_self _ _) hxB
     have E1 : bits .or .u64 (IntKind.u64.wrap ((xs[k]?.getD 0 : Nat) * 2 ^ n)) (cN : Int) = ((xs[k]?.getD 0 * 2 ^ n % 18446744073709551616 + cN : Nat) : Int):=by
      have e1 : IntKind.u64.wrap (((xs[k]?.getD 0 : Nat) : Int) * 2 ^ n) = ((xs[k]?.getD 0 * 2 ^ n % 18446744073709551616 : Nat) : Int):=by
       have e : ((xs[k]?.getD 0 : Nat) : Int) * 2 ^ n = ((xs[k]?.getD 0 * 2 ^ n : Nat) : Int):=by simp
       rw [e,IntKind.wrap_u64]; omega
      rw [e1,bits_or_u64_nat _ _ (by omega) hcN,s1]
     have E2 : ((xs[k]?.getD 0 : Nat) : Int) / 2 ^ (64 - n) = ((xs[k]?.getD 0 / 2 ^ (64 - n) : Nat) : Int):=by simp
     clear s1 s3 s4
     generalize xs[k]?.getD 0 * 2 ^ n % 18446744073709551616 + cN = s at *
     generalize xs[k]?.getD 0 / 2 ^ (64 - n) = c' at *
     generalize xs[k]?.getD 0 = x at *
     generalize rs[k]?.getD 0 = r at cr
     have hset:=(unhide HI).2.2.2.set k (by omega) s
     rw [Nat.zero_add] at hset
     have HSET:=hide hset
     clear hset
     go_wp2
     refine ⟨⟨k + 1,c',rs.set k s,by omega,by go_num,rfl,hsl,by rw [List.length_set]; exact hrl,unhide ST,unhide S4,(unhide HI).2.2.1.setCell (.inr (Nat.le_refl _)) _,unhide HSET⟩,?_⟩
     simp [intOf]; omega
    ·have hke : k = xs.length:=by omega
     subst hke
     have hset:=(unhide HI).2.2.2.set xs.length (by omega) cN
     obtain ⟨cr,fr⟩:=(unhide HI).2.2.2 xs.length (by omega)
     rw [Nat.zero_add] at cr fr hset
     have hsl:=hset.sl (xs.length + 1) (by rw [List.length_set]; omega)
     rw [List.length_set,hrl] at hsl
     have HSL:=hide hsl
     have HSG:=hide hset
     have HMM:=hide (mem_set (unhide HI).1.mem xs.length cN hcN)
     have HF:=hide (unhide HI).1.fin
     have hln : (rs.set xs.length cN).length < 2147483648:=by rw [List.length_set]; omega
     have HB:=hide ((unhide HI).2.2.1.setCell (p:=⟨w.heap.size,xs.length,none⟩) (.inr (Nat.le_refl _)) (.int .u64 (cN : Int)))
     clear hset hsl HC HI
     generalize rs[xs.length]?.getD 0 = r at cr
     go_wp2_with fail
     refine (trimmed_any _ (rs.set xs.length cN) _ (unhide HSL) (unhide HMM) hln).mono ?_
     rintro e w1 ⟨v1,rfl,hv1,hw,hsb⟩
     obtain rfl:=hw.symm
     clear hw
     have OW:=hide (own_of (unhide HSG) hsb hv1 (wd_length_le (by omega) _ _ (vl_lt (by omega) _ (unhide HMM))) (Nat.le_refl _))
     rw [unhide HF] at hv1
     have HV1:=hide hv1
     clear hv1 hsb
     go_wp2
     go_ret
     exact ⟨v1,rfl,unhide HV1,unhide HB,.inr (unhide OW)⟩

structure RightInv (xs rs : List Nat) (n k c : Nat) : Prop where
 len : rs.length = xs.length
 mem : ∀ x ∈ rs,x < 18446744073709551616
 val : vl 18446744073709551616 (rs.drop k) = vl 18446744073709551616 (xs.drop k) / 2 ^ n
 car : c = vl 18446744073709551616 (xs.drop k) % 2 ^ n * 2 ^ (64 - n)
theorem RightInv.start (xs : List Nat) (n : Nat) : RightInv xs (List.replicate xs.length 0) n xs.length 0 :=
 ⟨by simp,fun x hx => by rw [List.mem_replicate] at hx; omega,by simp [vl],by simp [vl]⟩
theorem RightInv.step {xs rs : List Nat} {n i c : Nat} (h : RightInv xs rs n (i + 1) c) (hi : i < xs.length) (hn : n ≤ 63) (s c' : Nat) (hs : s < 18446744073709551616) (e : (xs[i]?.getD 0 + 18446744073709551616 * (vl 18446744073709551616 (xs.drop (i + 1)) % 2 ^ n)) / 2 ^ n = s) (ec : xs[i]?.getD 0 % 2 ^ n * 2 ^ (64 - n) = c') : RightInv xs (rs.set i s) n i c':=by
 have hp : 18446744073709551616 = 2 ^ n * 2 ^ (64 - n):=by rw [← Nat.pow_add,show n + (64 - n) = 64 from by omega]
 have hz : 0 < 2 ^ n:=Nat.pow_pos (by omega)
 refine ⟨by rw [List.length_set]; exact h.len,mem_set h.mem _ _ hs,?_,?_⟩
 ·rw [set_drop rs i s (by rw [h.len]; exact hi),vl,h.val,vl_drop 18446744073709551616 xs i hi,← e]
  have hd:=Nat.mod_add_div (vl 18446744073709551616 (xs.drop (i + 1))) (2 ^ n)
  generalize vl 18446744073709551616 (xs.drop (i + 1)) = V at *
  have e1 : xs[i]?.getD 0 + 18446744073709551616 * V = xs[i]?.getD 0 + 18446744073709551616 * (V % 2 ^ n) + 2 ^ n * (18446744073709551616 * (V / 2 ^ n)):=by
   conv => lhs; rw [← hd]
   rw [Nat.mul_add,← Nat.add_assoc,Nat.mul_left_comm]
  rw [e1,Nat.add_mul_div_left _ _ hz]
 ·rw [vl_drop 18446744073709551616 xs i hi,hp,Nat.mul_assoc,Nat.add_mul_mod_self_left,← ec]
theorem RightInv.fin {xs rs : List Nat} {n c : Nat} (h : RightInv xs rs n 0 c) : vl 18446744073709551616 rs = vl 18446744073709551616 xs / 2 ^ n:=h.val

set_option maxHeartbeats 2000000 in
set_option maxRecDepth 100000 in
theorem natRight_any (v : Value) (X n : Nat) (w : World) (hv : Sl .u64 w v (wd 18446744073709551616 X)) (hl : (wd 18446744073709551616 X).length < 1073741824) (hn : n ≤ 63) :
  Calls Tryz.prog 99 #[v,.int .i64 (n : Int)] w fun e w' => ∃ v',e = .returned v'∧Sl .u64 w' v' (wd 18446744073709551616 (X / 2 ^ n))∧But [] w w'∧(v' = v ∨ Own w.heap.size w' v'):=by
 rcases Nat.eq_zero_or_pos n with h0 | h0
 ·subst h0
  rw [Nat.pow_zero,Nat.div_one]
  have HV:=hide hv
  obtain ⟨a,c,rfl,-,-⟩:=hv
  generalize (wd 18446744073709551616 X).length = l at *
  go_enter Tryz.func99,Tryz.ntmps99
  go_wp2
  go_ret
  exact ⟨_,rfl,unhide HV,But.refl _ _,.inl rfl⟩
 ·have nz : ((n : Int) == 0) = false:=beq_eq_false_iff_ne.2 (by omega)
  have mm:=wd_mem (B:=18446744073709551616) (by omega) X
  have em:=vl_wd (B:=18446744073709551616) (by omega) X
  rcases hv.open with ⟨e,a,c,rfl⟩ | ⟨hp,b,off,c,rfl,hc,hbl,hcell⟩
  ·have hX : X = 0:=(wd_nil_iff (by omega) X).1 e
   subst hX
   rw [Nat.zero_div,wd_zero]
   clear mm em e hv
   go_enter Tryz.func99,Tryz.ntmps99
   go_wp2
   go_ret
   exact ⟨_,rfl,⟨a,c,rfl,Nat.zero_le _,fun i hi => by simp at hi,fun _ _ _ h0 => by simp at h0⟩,But.refl _ _,.inl rfl⟩
  ·generalize wd 18446744073709551616 X = xs at *
   subst em
   have lz0 : ((xs.length : Int) == 0) = false:=beq_eq_false_iff_ne.2 (by omega)
   have hmk:=fun wx => run_make64 wx xs.length (by omega)
   have HC:=hide hcell
   have MM:=hide mm
   clear hcell mm hv
   go_enter Tryz.func99,Tryz.ntmps99
   go_wp2
   go_loopw [6,7] (fun c i wr => ∃ (k cN : Nat) (rs : List Nat),k ≤ xs.length∧i = .int .i64 ((k : Int) - 1)∧c = .int .u64 cN∧cN < 18446744073709551616∧rs.length = xs.length∧Hid (RightInv xs rs n k cN∧But [] w wr∧Seg wr w.heap.size 0 rs)) (fun _ i _ => (intOf i + 1).toNat)
   case atStart => exact ⟨xs.length,0,List.replicate xs.length 0,Nat.le_refl _,rfl,rfl,by omega,by simp,RightInv.start xs n,(But.refl _ _).alloc _,Seg.made _ _ _⟩
   case round =>
    obtain ⟨k,cN,rs,hk,rfl,rfl,hcN,hrl,HI⟩:=hrel
    rename World => wr
    by_cases hk0 : k = 0
    ·subst hk0
     have hsl:=(unhide HI).2.2.sl xs.length (by omega)
     rw [hrl] at hsl
     have HSL:=hide hsl
     have HF:=hide (unhide HI).1.fin
     have hln : rs.length < 2147483648:=by omega
     clear hsl HC
     go_wp2_with fail
     refine (trimmed_any _ rs _ (unhide HSL) (unhide HI).1.mem hln).mono ?_
     rintro e w1 ⟨v1,rfl,hv1,hw,hsb⟩
     obtain rfl:=hw.symm
     clear hw
     have hown:=own_of (lo:=w.heap.size) (unhide HI).2.2 hsb hv1 (by have:=wd_length_le (B:=18446744073709551616) (by omega) (vl 18446744073709551616 rs) rs.length (vl_lt (by omega) rs (unhide HI).1.mem); exact this) (Nat.le_refl _)
     rw [unhide HF] at hv1
     have HV1:=hide hv1
     have HOW:=hide hown
     clear hv1 hown hsb
     go_wp2
     go_ret
     exact ⟨v1,rfl,unhide HV1,(unhide HI).2.1,.inr (unhide HOW)⟩
    ·obtain ⟨i,rfl⟩ : ∃ i,k = i + 1:=⟨k - 1,by omega⟩
     have cx:=(unhide HI).2.1.cell_some (unhide HC i (by omega)) (by simp)
     have hxB : xs[i]?.getD 0 < 18446744073709551616:=mem_getD (unhide MM) (by omega) i
     obtain ⟨cr,fr⟩:=(unhide HI).2.2 i (by omega)
     rw [Nat.zero_add] at cr fr
     have hc:=(unhide HI).1.car
     obtain ⟨s1,s2,s3,s4,s5⟩:=shr_word _ (vl 18446744073709551616 (xs.drop (i + 1)) % 2 ^ n) n hxB h0 hn (Nat.mod_lt _ (Nat.pow_pos (by omega)))
     have ST:=hide ((unhide HI).1.step (by omega) hn _ _ s2 s3 rfl)
     rw [← hc] at s1 s2 ST
     have E1 : bits .or .u64 ((xs[i]?.getD 0 : Nat) / 2 ^ n) (cN : Int) = ((xs[i]?.getD 0 / 2 ^ n + cN : Nat) : Int):=by
      have e : ((xs[i]?.getD 0 : Nat) : Int) / 2 ^ n = ((xs[i]?.getD 0 / 2 ^ n : Nat) : Int):=by simp
      rw [e,bits_or_u64_nat _ _ (Nat.lt_of_le_of_lt (Nat.div_le_self _ _) hxB) hcN,s1]
     have E2 : IntKind.u64.wrap (((xs[i]?.getD 0 : Nat) : Int) * 2 ^ (64 - n)) = ((xs[i]?.getD 0 % 2 ^ n * 2 ^ (64 - n) : Nat) : Int):=by
      have e : ((xs[i]?.getD 0 : Nat) : Int) * 2 ^ (64 - n) = ((xs[i]?.getD 0 * 2 ^ (64 - n) : Nat) : Int):=by simp
      rw [e,IntKind.wrap_u64,← s4]; omega
     have hc'B : xs[i]?.getD 0 % 2 ^ n * 2 ^ (64 - n) < 18446744073709551616:=by rw [← s4]; omega
     clear s1 s3 s4 s5 hc
     generalize xs[i]?.getD 0 % 2 ^ n * 2 ^ (64 - n) = c' at *
     generalize xs[i]?.getD 0 / 2 ^ n + cN = s at *
     generalize xs[i]?.getD 0 = x at *
     generalize rs[i]?.getD 0 = r at cr
     have hset:=(unhide HI).2.2.set i (by omega) s
     rw [Nat.zero_add] at hset
     have HSET:=hide hset
     clear hset
     rw [show (((i + 1 : Nat) : Int) - 1) = (i : Int) from by omega]
     go_wp2
     refine ⟨⟨i,c',rs.set i s,by omega,rfl,rfl,hc'B,by rw [List.length_set]; exact hrl,unhide ST,(unhide HI).2.1.setCell (.inr (Nat.le_refl _)) _,unhide HSET⟩,?_⟩
     simp [intOf]
end Go.Proofs.YtndcigdphgojpaaGreatDoor
