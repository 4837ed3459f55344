/- The lower and the higher words of a whole number, as the Go text of package nat takes them. -/
import Derived.Deep.RegionHeld
import Derived.Deep.RegionWith
import Derived.Test.YtjbboicccddhbaaGreatDoorKPG0
import Derived.Test.YtjbboicccddhbaaGreatDoorKPN6
namespace Go.Proofs.YtjbboicccddhbaaGreatDoor
open Go.RowKit

theorem wd_drop (n X : Nat) : (wd 18446744073709551616 X).drop n = wd 18446744073709551616 (X / 18446744073709551616 ^ n):=by
 induction n generalizing X with
 | zero => simp
 | succ n ih =>
  rcases Nat.eq_zero_or_pos X with h | h
  ·subst h; simp [wd_zero]
  ·rw [wd_pos (by omega) h,List.drop_succ_cons,ih,Nat.div_div_eq_div_mul,Nat.pow_succ,Nat.mul_comm 18446744073709551616]
theorem vl_mod (xs : List Nat) (n : Nat) (h : ∀ x ∈ xs,x < 18446744073709551616) : vl 18446744073709551616 (xs.take n) = vl 18446744073709551616 xs % 18446744073709551616 ^ n:=by
 have h1 : vl 18446744073709551616 xs = vl 18446744073709551616 (xs.take n) + 18446744073709551616 ^ (xs.take n).length * vl 18446744073709551616 (xs.drop n):=by rw [← vl_append,List.take_append_drop]
 have h2:=vl_lt (by omega : 0 < 18446744073709551616) (xs.take n) (fun x hx => h x (List.mem_of_mem_take hx))
 rcases Nat.lt_or_ge n xs.length with hn | hn
 ·have e : (xs.take n).length = n:=by rw [List.length_take]; omega
  rw [e] at h1 h2
  rw [h1,Nat.add_mul_mod_self_left,Nat.mod_eq_of_lt h2]
 ·rw [List.take_of_length_le hn] at h2 ⊢
  rw [Nat.mod_eq_of_lt (Nat.lt_of_lt_of_le h2 (Nat.pow_le_pow_right (by omega) hn))]
theorem wd_take (n X : Nat) : vl 18446744073709551616 ((wd 18446744073709551616 X).take n) = X % 18446744073709551616 ^ n:=by rw [vl_mod _ _ (wd_mem (by omega) X),vl_wd (by omega)]
theorem wd_len_div (n X : Nat) : (wd 18446744073709551616 (X / 18446744073709551616 ^ n)).length = (wd 18446744073709551616 X).length - n:=by rw [← wd_drop,List.length_drop]
theorem wd_len_mod (n X : Nat) : (wd 18446744073709551616 (X % 18446744073709551616 ^ n)).length ≤ n:=wd_length_le (by omega) _ _ (Nat.mod_lt _ (Nat.pow_pos (by omega)))
theorem wd_len_mono {X Y : Nat} (h : X ≤ Y) : (wd 18446744073709551616 X).length ≤ (wd 18446744073709551616 Y).length:=wd_length_le (by omega) X _ (Nat.lt_of_le_of_lt h (lt_of_wd_length (by omega) Y _ (Nat.le_refl _)))
theorem wd_len_mod' (n X : Nat) : (wd 18446744073709551616 (X % 18446744073709551616 ^ n)).length ≤ (wd 18446744073709551616 X).length:=wd_len_mono (Nat.mod_le _ _)
theorem Sl.take {k : IntKind} {w : World} {b off cap : Nat} {xs : List Nat} (h : Sl k w (.slice (some ⟨b,off,none⟩) xs.length cap) xs) (n c : Nat) (hn : n ≤ xs.length) (hc : n ≤ c) : Sl k w (.slice (some ⟨b,off,none⟩) n c) (xs.take n):=by
 have hl : (xs.take n).length = n:=by rw [List.length_take]; omega
 have hI:=h.ints
 obtain ⟨a,cap',e,-,h1,-⟩:=h
 have h2:=Sl.mk (k:=k) (w:=w) (xs:=xs.take n) b off c (by omega) (fun i hi => by
  obtain ⟨b2,off2,e2,h3⟩:=h1 i (by omega)
  simp only [Value.slice.injEq] at e
  obtain ⟨rfl,-,-⟩:=e
  simp only [Option.some.injEq,Addr.mk.injEq] at e2
  obtain ⟨rfl,rfl,-⟩:=e2
  rw [take_getD xs n i (by omega)]; exact h3) (fun h0 => hI (by omega))
 rw [hl] at h2
 exact h2
theorem Sl.drop {k : IntKind} {w : World} {b off cap : Nat} {xs : List Nat} (h : Sl k w (.slice (some ⟨b,off,none⟩) xs.length cap) xs) (n m c : Nat) (hm : m = xs.length - n) (hc : m ≤ c) : Sl k w (.slice (some ⟨b,off + n,none⟩) m c) (xs.drop n):=by
 have hl : (xs.drop n).length = m:=by rw [List.length_drop]; omega
 have hI:=h.ints
 obtain ⟨a,cap',e,-,h1,-⟩:=h
 have h2:=Sl.mk (k:=k) (w:=w) (xs:=xs.drop n) b (off + n) c (by omega) (fun i hi => by
  obtain ⟨b2,off2,e2,h3⟩:=h1 (n + i) (by omega)
  simp only [Value.slice.injEq] at e
  obtain ⟨rfl,-,-⟩:=e
  simp only [Option.some.injEq,Addr.mk.injEq] at e2
  obtain ⟨rfl,rfl,-⟩:=e2
  rw [List.getElem?_drop,Nat.add_assoc]; exact h3) (fun h0 => hI (by omega))
 rw [hl] at h2
 exact h2

set_option maxHeartbeats 1000000 in
set_option maxRecDepth 100000 in
theorem natLow_any (v : Value) (X n : Nat) (w : World) (hv : Sl .u64 w v (wd 18446744073709551616 X)) (hl : (wd 18446744073709551616 X).length < 2147483648) (hn : n < 2147483648) :
  Calls Tryz.prog 159 #[v,.int .i64 (n : Int)] w fun e w' => ∃ v',e = .returned v'∧Sl .u64 w v' (wd 18446744073709551616 (X % 18446744073709551616 ^ n))∧w' = w:=by
 by_cases hle : (wd 18446744073709551616 X).length ≤ n
 ·have e : X % 18446744073709551616 ^ n = X:=Nat.mod_eq_of_lt (lt_of_wd_length (by omega) X n hle)
  rw [e]
  have HV:=hide hv
  obtain ⟨a,c,rfl,-,-⟩:=hv
  clear e
  generalize (wd 18446744073709551616 X).length = l at *
  go_enter Tryz.func159,Tryz.ntmps159
  go_wp2
  go_ret
  exact ⟨_,rfl,unhide HV,rfl⟩
 ·rcases hv.open with ⟨e,-⟩ | ⟨h0,b,off,c,rfl,hc,-,-⟩
  ·rw [e] at hle; simp at hle
  have ht:=trimmed_any (.slice (some ⟨b,off,none⟩) n c) ((wd 18446744073709551616 X).take n) w (hv.take n c (by omega) (by omega)) (fun x hx => wd_mem (by omega) X x (List.mem_of_mem_take hx)) (by rw [List.length_take]; omega)
  rw [wd_take] at ht
  have HT:=hide ht
  clear ht hv
  generalize (wd 18446744073709551616 X).length = l at *
  have hnl : n < l:=by omega
  have hnc : n ≤ c:=by omega
  go_enter Tryz.func159,Tryz.ntmps159
  go_wp2_with fail
  refine (unhide HT).mono ?_
  rintro e w1 ⟨v',rfl,h1,hw,-⟩
  obtain rfl:=hw.symm
  clear hw
  have H1:=hide h1
  clear h1
  go_wp2
  go_ret
  exact ⟨v',rfl,unhide H1,rfl⟩

set_option maxHeartbeats 1000000 in
set_option maxRecDepth 100000 in
theorem natHigh_any (v : Value) (X n : Nat) (w : World) (hv : Sl .u64 w v (wd 18446744073709551616 X)) (_hl : (wd 18446744073709551616 X).length < 2147483648) (hn : n < 2147483648) :
  Calls Tryz.prog 160 #[v,.int .i64 (n : Int)] w fun e w' => ∃ v',e = .returned v'∧Sl .u64 w v' (wd 18446744073709551616 (X / 18446744073709551616 ^ n))∧w' = w:=by
 by_cases hle : (wd 18446744073709551616 X).length ≤ n
 ·have e : X / 18446744073709551616 ^ n = 0:=Nat.div_eq_of_lt (lt_of_wd_length (by omega) X n hle)
  rw [e,wd_zero]
  obtain ⟨a,c,rfl,-,-⟩:=hv
  clear e
  generalize (wd 18446744073709551616 X).length = l at *
  go_enter Tryz.func160,Tryz.ntmps160
  go_wp2
  go_ret
  exact ⟨_,rfl,Sl.nil _ _,rfl⟩
 ·rcases hv.open with ⟨e,-⟩ | ⟨h0,b,off,c,rfl,hc,-,-⟩
  ·rw [e] at hle; simp at hle
  have HR:=hide (hv.drop n ((wd 18446744073709551616 X).length - n) (c - n) rfl (by omega))
  rw [wd_drop] at HR
  clear hv
  generalize (wd 18446744073709551616 X).length = l at *
  have hnl : n < l:=by omega
  have hnc : n < c:=by omega
  go_enter Tryz.func160,Tryz.ntmps160
  go_wp2
  go_ret
  exact ⟨_,rfl,unhide HR,rfl⟩
end Go.Proofs.YtjbboicccddhbaaGreatDoor

namespace Go.Proofs.YtjbboicccddhbaaGreatDoor
open Go.RowKit

/-- a row of a call's own: from block lo on, and to be written into -/
def Own (lo : Nat) (w : World) (v : Value) : Prop:=∀ b off n c,v = .slice (some ⟨b,off,none⟩) n c→lo ≤ b∧∀ i,i < n→w.frozen? ⟨b,off + i,none⟩ = false
theorem own_of {w : World} {g lo n c : Nat} {rs ys : List Nat} {v : Value} (hs : Seg w g 0 rs) (hb : SameBase (.slice (some ⟨g,0,none⟩) n c) v) (hv : Sl .u64 w v ys) (hl : ys.length ≤ rs.length) (hg : lo ≤ g) : Own lo w v:=fun b off m c' e => by
 obtain ⟨n',c'',e'⟩:=hb b off m c' e
 simp only [Value.slice.injEq,Option.some.injEq,Addr.mk.injEq] at e'
 obtain ⟨⟨rfl,rfl,-⟩,-,-⟩:=e'
 obtain ⟨a,cap,e2,-,-⟩:=hv
 rw [e] at e2
 simp only [Value.slice.injEq] at e2
 obtain ⟨-,rfl,-⟩:=e2
 exact ⟨hg,fun i hi => (hs i (by omega)).2⟩
theorem Own.mono {lo lo' : Nat} {w : World} {v : Value} (h : Own lo w v) (hl : lo' ≤ lo) : Own lo' w v:=fun b off n c e => ⟨Nat.le_trans hl (h b off n c e).1,(h b off n c e).2⟩
theorem own_nil (lo : Nat) (w : World) (c : Nat) : Own lo w (.slice none 0 c):=fun b off n c e => by simp at e

theorem set_drop (rs : List Nat) (i s : Nat) (h : i < rs.length) : (rs.set i s).drop i = s :: rs.drop (i + 1):=by
 rw [List.drop_eq_getElem_cons (by rw [List.length_set]; exact h),List.getElem_set_self,List.drop_set]
 simp
theorem shl_word (x c n : Nat) (hx : x < 18446744073709551616) (hn0 : 0 < n) (hn : n ≤ 63) (hc : c < 2 ^ n) : (x * 2 ^ n % 18446744073709551616) ||| c = x * 2 ^ n % 18446744073709551616 + c∧x * 2 ^ n % 18446744073709551616 + c < 18446744073709551616∧x * 2 ^ n % 18446744073709551616 + c + 18446744073709551616 * (x / 2 ^ (64 - n)) = x * 2 ^ n + c∧x / 2 ^ (64 - n) < 2 ^ n:=by
 have hp : 18446744073709551616 = 2 ^ (64 - n) * 2 ^ n:=by rw [← Nat.pow_add,show (64 - n) + n = 64 from by omega]
 have e0 : x * 2 ^ n % 18446744073709551616 = x % 2 ^ (64 - n) * 2 ^ n:=by rw [hp,Nat.mul_mod_mul_right]
 have e1 : x * 2 ^ n / 18446744073709551616 = x / 2 ^ (64 - n):=by rw [hp,Nat.mul_div_mul_right _ _ (Nat.pow_pos (by omega))]
 have h1 : x % 2 ^ (64 - n) + 1 ≤ 2 ^ (64 - n):=Nat.mod_lt _ (Nat.pow_pos (by omega))
 have h2:=Nat.mul_le_mul_right (2 ^ n) h1
 rw [← hp,Nat.add_mul,Nat.one_mul] at h2
 have h3:=Nat.div_add_mod (x * 2 ^ n) 18446744073709551616
 rw [e1] at h3
 refine ⟨?_,?_,?_,?_⟩
 ·rw [e0,Nat.mul_comm,Nat.two_pow_add_eq_or_of_lt hc]
 ·rw [e0]
  generalize x % 2 ^ (64 - n) * 2 ^ n = m at *
  generalize 2 ^ n = P at *
  omega
 ·generalize x * 2 ^ n = z at *
  generalize x / 2 ^ (64 - n) = y at *
  omega
 ·rw [Nat.div_lt_iff_lt_mul (Nat.pow_pos (by omega)),Nat.mul_comm,← hp]; exact hx
theorem shr_word (x r n : Nat) (hx : x < 18446744073709551616) (hn0 : 0 < n) (hn : n ≤ 63) (hr : r < 2 ^ n) : (x / 2 ^ n) ||| (r * 2 ^ (64 - n)) = x / 2 ^ n + r * 2 ^ (64 - n)∧x / 2 ^ n + r * 2 ^ (64 - n) < 18446744073709551616∧(x + 18446744073709551616 * r) / 2 ^ n = x / 2 ^ n + r * 2 ^ (64 - n)∧x * 2 ^ (64 - n) % 18446744073709551616 = (x % 2 ^ n) * 2 ^ (64 - n)∧r * 2 ^ (64 - n) < 18446744073709551616:=by
 have hp : 18446744073709551616 = 2 ^ (64 - n) * 2 ^ n:=by rw [← Nat.pow_add,show (64 - n) + n = 64 from by omega]
 have hb : x / 2 ^ n < 2 ^ (64 - n):=by rw [Nat.div_lt_iff_lt_mul (Nat.pow_pos (by omega)),← hp]; exact hx
 have h1 : (r + 1) * 2 ^ (64 - n) ≤ 2 ^ n * 2 ^ (64 - n):=Nat.mul_le_mul_right _ hr
 rw [Nat.mul_comm (2 ^ n),← hp,Nat.add_mul,Nat.one_mul] at h1
 refine ⟨?_,?_,?_,?_,?_⟩
 rotate_left
 ·generalize r * 2 ^ (64 - n) = m at *
  generalize 2 ^ (64 - n) = P at *
  omega
 rotate_left
 rotate_left
 ·have hz : 0 < 2 ^ (64 - n):=Nat.pow_pos (by omega)
  generalize r * 2 ^ (64 - n) = m at *
  generalize 2 ^ (64 - n) = P at *
  omega
 ·rw [Nat.or_comm,Nat.mul_comm r,← Nat.two_pow_add_eq_or_of_lt hb,Nat.add_comm]
 ·rw [hp,Nat.mul_assoc,Nat.mul_left_comm,Nat.add_mul_div_left _ _ (Nat.pow_pos (by omega)),Nat.mul_comm r]
 ·rw [hp,Nat.mul_comm (2 ^ (64 - n)) (2 ^ n),Nat.mul_mod_mul_right]

structure LeftInv (xs rs : List Nat) (n k c : Nat) : Prop where
 len : rs.length = xs.length + 1
 mem : ∀ x ∈ rs,x < 18446744073709551616
 val : vl 18446744073709551616 rs + c * 18446744073709551616 ^ k = 2 ^ n * vl 18446744073709551616 (xs.take k)
 zero : ∀ j,k ≤ j→rs[j]?.getD 0 = 0
theorem LeftInv.start (xs : List Nat) (n : Nat) : LeftInv xs (List.replicate (xs.length + 1) 0) n 0 0 :=
 ⟨by simp,fun x hx => by rw [List.mem_replicate] at hx; omega,by simp [vl_replicate,vl],fun j _ => by rw [List.getElem?_replicate]; split <;> rfl⟩
theorem LeftInv.step {xs rs : List Nat} {n k c : Nat} (h : LeftInv xs rs n k c) (hk : k < xs.length) (s c' : Nat) (hs : s < 18446744073709551616) (e : s + 18446744073709551616 * c' = xs[k]?.getD 0 * 2 ^ n + c) : LeftInv xs (rs.set k s) n (k + 1) c':=by
 have hl:=h.len
 refine ⟨by rw [List.length_set]; exact hl,mem_set h.mem _ _ hs,?_,fun j hj => by rw [List.getElem?_set_ne (by omega)]; exact h.zero j (by omega)⟩
 have h1:=add_step 18446744073709551616 rs k c s c' (xs[k]?.getD 0 * 2 ^ n) 0 (2 ^ n * vl 18446744073709551616 (xs.take k)) (by omega) (by rw [h.val,Nat.zero_add]) (by rw [h.zero k (Nat.le_refl _),e,Nat.zero_add])
 rw [h1,Nat.zero_add,vl_take_succ 18446744073709551616 xs k hk,Nat.mul_add]
 congr 1
 rw [Nat.mul_comm (xs[k]?.getD 0),Nat.mul_assoc]
theorem LeftInv.fin {xs rs : List Nat} {n c : Nat} (h : LeftInv xs rs n xs.length c) : vl 18446744073709551616 (rs.set xs.length c) = vl 18446744073709551616 xs * 2 ^ n:=by
 have h1:=vl_set 18446744073709551616 rs xs.length c (by have:=h.len; omega)
 have h2:=h.val
 rw [h.zero _ (Nat.le_refl _),Nat.zero_mul,Nat.add_zero] at h1
 rw [List.take_length] at h2
 rw [h1,h2,Nat.mul_comm]

set_option maxHeartbeats 2000000 in
set_option maxRecDepth 100000 in
theorem natLeft_any (v : Value) (X n : Nat) (w : World) (hv : Sl .u64 w v (wd 18446744073709551616 X)) (hl : (wd 18446744073709551616 X).length < 1073741824) (hn : n ≤ 63) :
  Calls Tryz.prog 154 #[v,.int .i64 (n : Int)] w fun e w' => ∃ v',e = .returned v'∧Sl .u64 w' v' (wd 18446744073709551616 (X * 2 ^ n))∧But [] w w'∧(v' = v ∨ Own w.heap.size w' v'):=by
 rcases Nat.eq_zero_or_pos n with h0 | h0
 ·subst h0
  rw [Nat.pow_zero,Nat.mul_one]
  have HV:=hide hv
  obtain ⟨a,c,rfl,-,-⟩:=hv
  generalize (wd 18446744073709551616 X).length = l at *
  go_enter Tryz.func154,Tryz.ntmps154
  go_wp2
  go_ret
  exact ⟨_,rfl,unhide HV,But.refl _ _,.inl rfl⟩
 ·have nz : ((n : Int) == 0) = false:=beq_eq_false_iff_ne.2 (by omega)
  have mm:=wd_mem (B:=18446744073709551616) (by omega) X
  have em:=vl_wd (B:=18446744073709551616) (by omega) X
  rcases hv.open with ⟨e,a,c,rfl⟩ | ⟨hp,b,off,c,rfl,hc,hbl,hcell⟩
  ·have hX : X = 0:=(wd_nil_iff (by omega) X).1 e
   subst hX
   rw [Nat.zero_mul,wd_zero]
   clear mm em e hv
   go_enter Tryz.func154,Tryz.ntmps154
   go_wp2
   go_ret
   exact ⟨_,rfl,⟨a,c,rfl,Nat.zero_le _,fun i hi => by simp at hi,fun _ _ _ h0 => by simp at h0⟩,But.refl _ _,.inl rfl⟩
  ·generalize wd 18446744073709551616 X = xs at *
   subst em
   have lz0 : ((xs.length : Int) == 0) = false:=beq_eq_false_iff_ne.2 (by omega)
   have hmk:=fun wx => run_make64s wx xs.length hl
   have HC:=hide hcell
   have MM:=hide mm
   clear hcell mm hv
   go_enter Tryz.func154,Tryz.ntmps154
   go_wp2
   go_loopw [6,23] (fun c i wr => ∃ (k cN : Nat) (rs : List Nat),k ≤ xs.length∧i = .int .i64 k∧c = .int .u64 cN∧cN < 18446744073709551616∧rs.length = xs.length + 1∧Hid (LeftInv xs rs n k cN∧cN < 2 ^ n∧But [] w wr∧Seg wr w.heap.size 0 rs)) (fun _ i _ => xs.length - (intOf i).toNat)
   case atStart => exact ⟨0,0,List.replicate (xs.length + 1) 0,Nat.zero_le _,rfl,rfl,by omega,by simp,LeftInv.start xs n,Nat.pow_pos (by omega),(But.refl _ _).alloc _,Seg.made _ _ _⟩
   case round =>
    obtain ⟨k,cN,rs,hk,rfl,rfl,hcN,hrl,HI⟩:=hrel
    rename World => wr
    by_cases hlt : k < xs.length
    ·have cx:=(unhide HI).2.2.1.cell_some (unhide HC k hlt) (by simp)
     have hxB : xs[k]?.getD 0 < 18446744073709551616:=mem_getD (unhide MM) (by omega) k
     obtain ⟨cr,fr⟩:=(unhide HI).2.2.2 k (by omega)
     rw [Nat.zero_add] at cr fr
     obtain ⟨s1,s2,s3,s4⟩:=shl_word _ cN n hxB h0 hn (unhide HI).2.1
     have ST:=hide ((unhide HI).1.step hlt _ _ s2 s3)
     have S4:=hide s4
     have hsl : xs[k]?.getD 0 / 2 ^ (64 - n) < 18446744073709551616:=Nat.lt_of_le_of_lt (Nat.div_le_self _ _) hxB
     have E1 : bits .or .u64 (IntKind.u64.wrap ((xs[k]?.getD 0 : Nat) * 2 ^ n)) (cN : Int) = ((xs[k]?.getD 0 * 2 ^ n % 18446744073709551616 + cN : Nat) : Int):=by
      have e1 : IntKind.u64.wrap (((xs[k]?.getD 0 : Nat) : Int) * 2 ^ n) = ((xs[k]?.getD 0 * 2 ^ n % 18446744073709551616 : Nat) : Int):=by
       have e : ((xs[k]?.getD 0 : Nat) : Int) * 2 ^ n = ((xs[k]?.getD 0 * 2 ^ n : Nat) : Int):=by simp
       rw [e,IntKind.wrap_u64]; omega
      rw [e1,bits_or_u64_nat _ _ (by omega) hcN,s1]
     have E2 : ((xs[k]?.getD 0 : Nat) : Int) / 2 ^ (64 - n) = ((xs[k]?.getD 0 / 2 ^ (64 - n) : Nat) : Int):=by simp
     clear s1 s3 s4
     generalize xs[k]?.getD 0 * 2 ^ n % 18446744073709551616 + cN = s at *
     generalize xs[k]?.getD 0 / 2 ^ (64 - n) = c' at *
     generalize xs[k]?.getD 0 = x at *
     generalize rs[k]?.getD 0 = r at cr
     have hset:=(unhide HI).2.2.2.set k (by omega) s
     rw [Nat.zero_add] at hset
     have HSET:=hide hset
     clear hset
     go_wp2
     refine ⟨⟨k + 1,c',rs.set k s,by omega,by go_num,rfl,hsl,by rw [List.length_set]; exact hrl,unhide ST,unhide S4,(unhide HI).2.2.1.setCell (.inr (Nat.le_refl _)) _,unhide HSET⟩,?_⟩
     simp [intOf]; omega
    ·have hke : k = xs.length:=by omega
     subst hke
     have hset:=(unhide HI).2.2.2.set xs.length (by omega) cN
     obtain ⟨cr,fr⟩:=(unhide HI).2.2.2 xs.length (by omega)
     rw [Nat.zero_add] at cr fr hset
     have hsl:=hset.sl (xs.length + 1) (by rw [List.length_set]; omega)
     rw [List.length_set,hrl] at hsl
     have HSL:=hide hsl
     have HSG:=hide hset
     have HMM:=hide (mem_set (unhide HI).1.mem xs.length cN hcN)
     have HF:=hide (unhide HI).1.fin
     have hln : (rs.set xs.length cN).length < 2147483648:=by rw [List.length_set]; omega
     have HB:=hide ((unhide HI).2.2.1.setCell (p:=⟨w.heap.size,xs.length,none⟩) (.inr (Nat.le_refl _)) (.int .u64 (cN : Int)))
     clear hset hsl HC HI
     generalize rs[xs.length]?.getD 0 = r at cr
     go_wp2_with fail
     refine (trimmed_any _ (rs.set xs.length cN) _ (unhide HSL) (unhide HMM) hln).mono ?_
     rintro e w1 ⟨v1,rfl,hv1,hw,hsb⟩
     obtain rfl:=hw.symm
     clear hw
     have OW:=hide (own_of (unhide HSG) hsb hv1 (wd_length_le (by omega) _ _ (vl_lt (by omega) _ (unhide HMM))) (Nat.le_refl _))
     rw [unhide HF] at hv1
     have HV1:=hide hv1
     clear hv1 hsb
     go_wp2
     go_ret
     exact ⟨v1,rfl,unhide HV1,unhide HB,.inr (unhide OW)⟩

structure RightInv (xs rs : List Nat) (n k c : Nat) : Prop where
 len : rs.length = xs.length
 mem : ∀ x ∈ rs,x < 18446744073709551616
 val : vl 18446744073709551616 (rs.drop k) = vl 18446744073709551616 (xs.drop k) / 2 ^ n
 car : c = vl 18446744073709551616 (xs.drop k) % 2 ^ n * 2 ^ (64 - n)
theorem RightInv.start (xs : List Nat) (n : Nat) : RightInv xs (List.replicate xs.length 0) n xs.length 0 :=
 ⟨by simp,fun x hx => by rw [List.mem_replicate] at hx; omega,by simp [vl],by simp [vl]⟩
theorem RightInv.step {xs rs : List Nat} {n i c : Nat} (h : RightInv xs rs n (i + 1) c) (hi : i < xs.length) (hn : n ≤ 63) (s c' : Nat) (hs : s < 18446744073709551616) (e : (xs[i]?.getD 0 + 18446744073709551616 * (vl 18446744073709551616 (xs.drop (i + 1)) % 2 ^ n)) / 2 ^ n = s) (ec : xs[i]?.getD 0 % 2 ^ n * 2 ^ (64 - n) = c') : RightInv xs (rs.set i s) n i c':=by
 have hp : 18446744073709551616 = 2 ^ n * 2 ^ (64 - n):=by rw [← Nat.pow_add,show n + (64 - n) = 64 from by omega]
 have hz : 0 < 2 ^ n:=Nat.pow_pos (by omega)
 refine ⟨by rw [List.length_set]; exact h.len,mem_set h.mem _ _ hs,?_,?_⟩
 ·rw [set_drop rs i s (by rw [h.len]; exact hi),vl,h.val,vl_drop 18446744073709551616 xs i hi,← e]
  have hd:=Nat.mod_add_div (vl 18446744073709551616 (xs.drop (i + 1))) (2 ^ n)
  generalize vl 18446744073709551616 (xs.drop (i + 1)) = V at *
  have e1 : xs[i]?.getD 0 + 18446744073709551616 * V = xs[i]?.getD 0 + 18446744073709551616 * (V % 2 ^ n) + 2 ^ n * (18446744073709551616 * (V / 2 ^ n)):=by
   conv => lhs; rw [← hd]
   rw [Nat.mul_add,← Nat.add_assoc,Nat.mul_left_comm]
  rw [e1,Nat.add_mul_div_left _ _ hz]
 ·rw [vl_drop 18446744073709551616 xs i hi,hp,Nat.mul_assoc,Nat.add_mul_mod_self_left,← ec]
theorem RightInv.fin {xs rs : List Nat} {n c : Nat} (h : RightInv xs rs n 0 c) : vl 18446744073709551616 rs = vl 18446744073709551616 xs / 2 ^ n:=h.val

set_option maxHeartbeats 2000000 in
set_option maxRecDepth 100000 in
theorem natRight_any (v : Value) (X n : Nat) (w : World) (hv : Sl .u64 w v (wd 18446744073709551616 X)) (hl : (wd 18446744073709551616 X).length < 1073741824) (hn : n ≤ 63) :
  Calls Tryz.prog 155 #[v,.int .i64 (n : Int)] w fun e w' => ∃ v',e = .returned v'∧Sl .u64 w' v' (wd 18446744073709551616 (X / 2 ^ n))∧But [] w w'∧(v' = v ∨ Own w.heap.size w' v'):=by
 rcases Nat.eq_zero_or_pos n with h0 | h0
 ·subst h0
  rw [Nat.pow_zero,Nat.div_one]
  have HV:=hide hv
  obtain ⟨a,c,rfl,-,-⟩:=hv
  generalize (wd 18446744073709551616 X).length = l at *
  go_enter Tryz.func155,Tryz.ntmps155
  go_wp2
  go_ret
  exact ⟨_,rfl,unhide HV,But.refl _ _,.inl rfl⟩
 ·have nz : ((n : Int) == 0) = false:=beq_eq_false_iff_ne.2 (by omega)
  have mm:=wd_mem (B:=18446744073709551616) (by omega) X
  have em:=vl_wd (B:=18446744073709551616) (by omega) X
  rcases hv.open with ⟨e,a,c,rfl⟩ | ⟨hp,b,off,c,rfl,hc,hbl,hcell⟩
  ·have hX : X = 0:=(wd_nil_iff (by omega) X).1 e
   subst hX
   rw [Nat.zero_div,wd_zero]
   clear mm em e hv
   go_enter Tryz.func155,Tryz.ntmps155
   go_wp2
   go_ret
   exact ⟨_,rfl,⟨a,c,rfl,Nat.zero_le _,fun i hi => by simp at hi,fun _ _ _ h0 => by simp at h0⟩,But.refl _ _,.inl rfl⟩
  ·generalize wd 18446744073709551616 X = xs at *
   subst em
   have lz0 : ((xs.length : Int) == 0) = false:=beq_eq_false_iff_ne.2 (by omega)
   have hmk:=fun wx => run_make64 wx xs.length (by omega)
   have HC:=hide hcell
   have MM:=hide mm
   clear hcell mm hv
   go_enter Tryz.func155,Tryz.ntmps155
   go_wp2
   go_loopw [6,7] (fun c i wr => ∃ (k cN : Nat) (rs : List Nat),k ≤ xs.length∧i = .int .i64 ((k : Int) - 1)∧c = .int .u64 cN∧cN < 18446744073709551616∧rs.length = xs.length∧Hid (RightInv xs rs n k cN∧But [] w wr∧Seg wr w.heap.size 0 rs)) (fun _ i _ => (intOf i + 1).toNat)
   case atStart => exact ⟨xs.length,0,List.replicate xs.length 0,Nat.le_refl _,rfl,rfl,by omega,by simp,RightInv.start xs n,(But.refl _ _).alloc _,Seg.made _ _ _⟩
   case round =>
    obtain ⟨k,cN,rs,hk,rfl,rfl,hcN,hrl,HI⟩:=hrel
    rename World => wr
    by_cases hk0 : k = 0
    ·subst hk0
     have hsl:=(unhide HI).2.2.sl xs.length (by omega)
     rw [hrl] at hsl
     have HSL:=hide hsl
     have HF:=hide (unhide HI).1.fin
     have hln : rs.length < 2147483648:=by omega
     clear hsl HC
     go_wp2_with fail
     refine (trimmed_any _ rs _ (unhide HSL) (unhide HI).1.mem hln).mono ?_
     rintro e w1 ⟨v1,rfl,hv1,hw,hsb⟩
     obtain rfl:=hw.symm
     clear hw
     have hown:=own_of (lo:=w.heap.size) (unhide HI).2.2 hsb hv1 (by have:=wd_length_le (B:=18446744073709551616) (by omega) (vl 18446744073709551616 rs) rs.length (vl_lt (by omega) rs (unhide HI).1.mem); exact this) (Nat.le_refl _)
     rw [unhide HF] at hv1
     have HV1:=hide hv1
     have HOW:=hide hown
     clear hv1 hown hsb
     go_wp2
     go_ret
     exact ⟨v1,rfl,unhide HV1,(unhide HI).2.1,.inr (unhide HOW)⟩
    ·obtain ⟨i,rfl⟩ : ∃ i,k = i + 1:=⟨k - 1,by omega⟩
     have cx:=(unhide HI).2.1.cell_some (unhide HC i (by omega)) (by simp)
     have hxB : xs[i]?.getD 0 < 18446744073709551616:=mem_getD (unhide MM) (by omega) i
     obtain ⟨cr,fr⟩:=(unhide HI).2.2 i (by omega)
     rw [Nat.zero_add] at cr fr
     have hc:=(unhide HI).1.car
     obtain ⟨s1,s2,s3,s4,s5⟩:=shr_word _ (vl 18446744073709551616 (xs.drop (i + 1)) % 2 ^ n) n hxB h0 hn (Nat.mod_lt _ (Nat.pow_pos (by omega)))
     have ST:=hide ((unhide HI).1.step (by omega) hn _ _ s2 s3 rfl)
     rw [← hc] at s1 s2 ST
     have E1 : bits .or .u64 ((xs[i]?.getD 0 : Nat) / 2 ^ n) (cN : Int) = ((xs[i]?.getD 0 / 2 ^ n + cN : Nat) : Int):=by
      have e : ((xs[i]?.getD 0 : Nat) : Int) / 2 ^ n = ((xs[i]?.getD 0 / 2 ^ n : Nat) : Int):=by simp
      rw [e,bits_or_u64_nat _ _ (Nat.lt_of_le_of_lt (Nat.div_le_self _ _) hxB) hcN,s1]
     have E2 : IntKind.u64.wrap (((xs[i]?.getD 0 : Nat) : Int) * 2 ^ (64 - n)) = ((xs[i]?.getD 0 % 2 ^ n * 2 ^ (64 - n) : Nat) : Int):=by
      have e : ((xs[i]?.getD 0 : Nat) : Int) * 2 ^ (64 - n) = ((xs[i]?.getD 0 * 2 ^ (64 - n) : Nat) : Int):=by simp
      rw [e,IntKind.wrap_u64,← s4]; omega
     have hc'B : xs[i]?.getD 0 % 2 ^ n * 2 ^ (64 - n) < 18446744073709551616:=by rw [← s4]; omega
     clear s1 s3 s4 s5 hc
     generalize xs[i]?.getD 0 % 2 ^ n * 2 ^ (64 - n) = c' at *
     generalize xs[i]?.getD 0 / 2 ^ n + cN = s at *
     generalize xs[i]?.getD 0 = x at *
     generalize rs[i]?.getD 0 = r at cr
     have hset:=(unhide HI).2.2.set i (by omega) s
     rw [Nat.zero_add] at hset
     have HSET:=hide hset
     clear hset
     rw [show (((i + 1 : Nat) : Int) - 1) = (i : Int) from by omega]
     go_wp2
     refine ⟨⟨i,c',rs.set i s,by omega,rfl,rfl,hc'B,by rw [List.length_set]; exact hrl,unhide ST,(unhide HI).2.1.setCell (.inr (Nat.le_refl _)) _,unhide HSET⟩,?_⟩
     simp [intOf]
end Go.Proofs.YtjbboicccddhbaaGreatDoor

namespace Go.Proofs.YtjbboicccddhbaaGreatDoor
open Go.RowKit

theorem wd_word (u : Nat) (h0 : 0 < u) (hu : u < 18446744073709551616) : wd 18446744073709551616 u = [u]:=by rw [wd_pos (by omega) h0,Nat.mod_eq_of_lt hu,Nat.div_eq_of_lt hu,wd_zero]
set_option maxHeartbeats 1000000 in
theorem natOf_any (u : Nat) (hu : u < 18446744073709551616) (w : World) :
  Calls Tryz.prog 92 #[.int .u64 u] w fun e w' => ∃ v,e = .returned v∧Sl .u64 w' v (wd 18446744073709551616 u)∧But [] w w'∧Own w.heap.size w' v:=by
 by_cases h0 : u = 0
 ·subst h0
  go_enter Tryz.func92,Tryz.ntmps92
  go_wp2
  go_ret
  exact ⟨_,rfl,by rw [wd_zero]; exact Sl.nil _ _,But.refl _ _,own_nil _ _ _⟩
 ·have n0 : ((u : Int) == 0) = false:=by simp; exact h0
  go_enter Tryz.func92,Tryz.ntmps92
  go_wp2
  go_ret
  refine ⟨_,rfl,?_,(But.refl _ _).alloc _,?_⟩
  ·rw [wd_word u (by omega) hu]
   exact Sl.mk (xs:=[u]) w.heap.size 0 1 (by simp) (fun i hi => by
    have : i = 0:=by simpa using hi
    subst this; simp) (fun _ i v hv => by
    rw [World.cell?_alloc_new] at hv
    rcases i with _ | i
    ·exact ⟨u,by simpa using hv.symm⟩
    ·simp at hv)
  ·intro b off n c e
   simp at e
   obtain ⟨⟨rfl,rfl,-⟩,-,-⟩:=e
   exact ⟨Nat.le_refl _,fun i _ => by simp⟩

/-- a word as a number of words: none for 0 -/
theorem word_open {w : World} {v : Value} {u : Nat} (h : Sl .u64 w v (wd 18446744073709551616 u)) (hu : u < 18446744073709551616) : (u = 0∧∃ a c,v = .slice a 0 c) ∨ (0 < u∧∃ b off c,v = .slice (some ⟨b,off,none⟩) 1 c∧w.cell? ⟨b,off,none⟩ = some (.int .u64 u)):=by
 rcases Nat.eq_zero_or_pos u with h0 | h0
 ·subst h0
  rw [wd_zero] at h
  obtain ⟨a,c,e,-⟩:=h
  exact .inl ⟨rfl,a,c,e⟩
 ·rw [wd_word u h0 hu] at h
  rcases h.open with ⟨e,-⟩ | ⟨-,b,off,c,e,-,-,hc⟩
  ·simp at e
  ·exact .inr ⟨h0,b,off,c,e,hc 0 (by simp)⟩
theorem wd_len_two (u : Nat) (hu : 18446744073709551616 ≤ u) : 2 ≤ (wd 18446744073709551616 u).length:=by
 rcases Nat.lt_or_ge (wd 18446744073709551616 u).length 2 with h | h
 ·have:=lt_of_wd_length (B:=18446744073709551616) (by omega) u 1 (by omega)
  omega
 ·exact h

set_option maxHeartbeats 1000000 in
theorem natWord_any (v : Value) (u : Nat) (hu : u < 18446744073709551616) (w : World) (hv : Sl .u64 w v (wd 18446744073709551616 u)) :
  Calls Tryz.prog 94 #[v] w fun e w' => e = .returned (.tuple #[.int .u64 u,.bool true])∧w' = w:=by
 rcases word_open hv hu with ⟨rfl,a,c,rfl⟩ | ⟨h0,b,off,c,rfl,hc⟩
 ·go_enter Tryz.func94,Tryz.ntmps94
  go_wp2
  go_ret2
  exact ⟨rfl,rfl⟩
 ·go_enter Tryz.func94,Tryz.ntmps94
  go_wp2
  go_ret2
  exact ⟨rfl,rfl⟩
set_option maxHeartbeats 1000000 in
theorem natWord_long (v : Value) (u : Nat) (hu : 18446744073709551616 ≤ u) (w : World) (hv : Sl .u64 w v (wd 18446744073709551616 u)) (hl : (wd 18446744073709551616 u).length < 2147483648) :
  Calls Tryz.prog 94 #[v] w fun e w' => e = .returned (.tuple #[.int .u64 0,.bool false])∧w' = w:=by
 have h2:=wd_len_two u hu
 obtain ⟨a,c,rfl,-,-⟩:=hv
 generalize (wd 18446744073709551616 u).length = l at *
 have n0 : ((l : Int) == 0) = false:=beq_eq_false_iff_ne.2 (by omega)
 have n1 : ((l : Int) == 1) = false:=beq_eq_false_iff_ne.2 (by omega)
 clear hu
 go_enter Tryz.func94,Tryz.ntmps94
 go_wp2
 go_ret2
 exact ⟨rfl,rfl⟩

set_option maxHeartbeats 1000000 in
theorem natOne_any (v : Value) (u : Nat) (w : World) (hv : Sl .u64 w v (wd 18446744073709551616 u)) (hl : (wd 18446744073709551616 u).length < 2147483648) (r : Bool) (hr : Hid (r = decide (u = 1))) :
  Calls Tryz.prog 48 #[v] w fun e w' => e = .returned (.bool r)∧w' = w:=by
 rcases Nat.lt_or_ge u 18446744073709551616 with hu | hu
 ·rcases word_open hv hu with ⟨rfl,a,c,rfl⟩ | ⟨h0,b,off,c,rfl,hc⟩
  ·have e : Hid (r = false):=by show _ = _; rw [unhide hr]; rfl
   clear hr
   go_enter Tryz.func48,Tryz.ntmps48
   go_wp2
   go_ret
   exact ⟨by rw [unhide e]; rfl,rfl⟩
  ·have e : ((u : Int) == 1) = r:=by rw [unhide hr,Bool.eq_iff_iff]; simp; omega
   clear hr
   go_enter Tryz.func48,Tryz.ntmps48
   go_wp2
   go_ret
   exact ⟨rfl,rfl⟩
 ·have e : Hid (r = false):=by show _ = _; rw [unhide hr]; simp; omega
  have h2:=wd_len_two u hu
  clear hr hu
  obtain ⟨a,c,rfl,-,-⟩:=hv
  generalize (wd 18446744073709551616 u).length = l at *
  have n1 : ((l : Int) == 1) = false:=beq_eq_false_iff_ne.2 (by omega)
  go_enter Tryz.func48,Tryz.ntmps48
  go_wp2
  go_ret
  exact ⟨by rw [unhide e]; rfl,rfl⟩
end Go.Proofs.YtjbboicccddhbaaGreatDoor

namespace Go.Proofs.YtjbboicccddhbaaGreatDoor
open Go.RowKit

set_option maxHeartbeats 1000000 in
theorem under_any (s : Bool) (p q : Nat) (hq : q < 18446744073709551616) (hq0 : 0 < q) (w : World) :
  Calls Tryz.prog 93 #[.agg #[.bool s,.int .u64 (p : Int),.int .u64 ((q : Int) - 1),.pointer none]] w fun e w' => e = .returned (.int .u64 (q : Int))∧But [] w w':=by
 go_enter Tryz.func93,Tryz.ntmps93
 go_wp2
 go_ret
 exact ⟨rfl,(But.refl _ _).alloc _⟩

set_option maxHeartbeats 1000000 in
theorem size_any (x : Int) (h1 : -9223372036854775808 ≤ x) (h2 : x < 9223372036854775808) (w : World) :
  Calls Tryz.prog 52 #[.int .i64 x] w fun e w' => e = .returned (.int .u64 (x.natAbs : Nat))∧w' = w:=by
 by_cases hx : x < 0
 ·have e1 : IntKind.u64.wrap (-IntKind.u64.wrap x) = ((x.natAbs : Nat) : Int):=by rw [IntKind.wrap_u64,IntKind.wrap_u64]; omega
  obtain ⟨n,hn⟩ : ∃ n : Nat,n = x.natAbs:=⟨_,rfl⟩
  rw [← hn] at e1 ⊢
  clear hn
  go_enter Tryz.func52,Tryz.ntmps52
  go_wp2
  go_ret
  exact ⟨rfl,rfl⟩
 ·obtain ⟨n,rfl⟩:=Int.eq_ofNat_of_zero_le (Int.not_lt.1 hx)
  rw [Int.natAbs_natCast]
  go_enter Tryz.func52,Tryz.ntmps52
  go_wp2
  go_ret
  exact ⟨rfl,rfl⟩

set_option maxHeartbeats 1000000 in
theorem ofWords_any (s : Bool) (p q : Nat) (hp : p < 18446744073709551616) (hq : q < 18446744073709551616) (hq0 : 0 < q) (r : Bool) (hr : Hid (r = (s && decide (p ≠ 0)))) (w : World) :
  Calls Tryz.prog 67 #[.bool s,.int .u64 (p : Int),.int .u64 (q : Int)] w fun e w' => e = .returned (.agg #[.bool r,.int .u64 (p : Int),.int .u64 ((q : Int) - 1),.pointer none])∧But [] w w':=by
 have e : ((p : Int) != 0) = decide (p ≠ 0):=by rw [Bool.eq_iff_iff]; simp
 by_cases h0 : p = 0
 ·subst h0
  have er : Hid (r = false):=by show _ = _; rw [unhide hr]; simp
  clear hr e
  cases s
  all_goals
   go_enter Tryz.func67,Tryz.ntmps67
   go_wp2
   rw [unhide er]
   exact bodyPost_ret (v:=.agg #[.bool false,.int .u64 ((0 : Nat) : Int),.int .u64 ((q : Int) - 1),.pointer none]) (by simp [results,Tryz.results67,go_sem]) rfl ⟨rfl,(But.refl _ _).alloc _⟩
 ·have e1 : ((p : Int) != 0) = true:=by rw [e]; simp [h0]
  cases s
  ·have er : Hid (r = false):=by show _ = _; rw [unhide hr]; simp
   clear hr e
   go_enter Tryz.func67,Tryz.ntmps67
   go_wp2
   rw [unhide er]
   exact bodyPost_ret (v:=.agg #[.bool false,.int .u64 (p : Int),.int .u64 ((q : Int) - 1),.pointer none]) (by simp [results,Tryz.results67,go_sem]) rfl ⟨rfl,(But.refl _ _).alloc _⟩
  ·have er : Hid (r = true):=by show _ = _; rw [unhide hr]; simp [h0]
   clear hr e
   go_enter Tryz.func67,Tryz.ntmps67
   go_wp2
   rw [unhide er]
   exact bodyPost_ret (v:=.agg #[.bool true,.int .u64 (p : Int),.int .u64 ((q : Int) - 1),.pointer none]) (by simp [results,Tryz.results67,go_sem]) rfl ⟨rfl,(But.refl _ _).alloc _⟩

set_option maxHeartbeats 4000000 in
theorem fracOf_any (x y : Int) (hx1 : -9223372036854775808 ≤ x) (hx2 : x < 9223372036854775808) (hy1 : -9223372036854775808 ≤ y) (hy2 : y < 9223372036854775808) (hy0 : y ≠ 0) (w : World) (r : Bool) (p q : Nat) (hr : Hid (r = ((decide (x < 0) != decide (y < 0)) && decide (p ≠ 0)))) (hp : Hid (p = x.natAbs / Nat.gcd x.natAbs y.natAbs)) (hq : Hid (q = y.natAbs / Nat.gcd x.natAbs y.natAbs)) :
  Calls Tryz.prog 24 #[.int .i64 x,.int .i64 y] w fun e w' => e = .returned (.tuple #[.agg #[.bool r,.int .u64 (p : Int),.int .u64 ((q : Int) - 1),.pointer none],.nilIface])∧But [] w w':=by
 have n0 : (y == 0) = false:=by simp; exact hy0
 obtain ⟨g,hg⟩ : ∃ g,g = Nat.gcd x.natAbs y.natAbs:=⟨_,rfl⟩
 have hg0 : 0 < g:=by rw [hg]; exact Nat.gcd_pos_of_pos_right _ (by omega)
 have hgl : g ≤ y.natAbs:=by rw [hg]; exact Nat.gcd_le_right _ (by omega)
 have hp' : p = x.natAbs / g:=by rw [hg]; exact unhide hp
 have hq' : q = y.natAbs / g:=by rw [hg]; exact unhide hq
 have hp64 : p < 18446744073709551616:=by rw [hp']; exact Nat.lt_of_le_of_lt (Nat.div_le_self _ _) (by omega)
 have hq64 : q < 18446744073709551616:=by rw [hq']; exact Nat.lt_of_le_of_lt (Nat.div_le_self _ _) (by omega)
 have hq0 : 0 < q:=by rw [hq']; exact Nat.div_pos hgl hg0
 have hgz : ((g : Int) == 0) = false:=by simp; omega
 have hg64 : g < 18446744073709551616:=by omega
 obtain ⟨a,ha⟩ : ∃ a,a = x.natAbs:=⟨_,rfl⟩
 obtain ⟨b,hb⟩ : ∃ b,b = y.natAbs:=⟨_,rfl⟩
 have ha64 : a < 18446744073709551616:=by omega
 have hb64 : b < 18446744073709551616:=by omega
 have d1 : (a : Int) / (g : Int) = (p : Int):=by rw [hp',← ha,Int.natCast_ediv]
 have d2 : (b : Int) / (g : Int) = (q : Int):=by rw [hq',← hb,Int.natCast_ediv]
 have d3 : (a : Int).tdiv (g : Int) = (p : Int):=by rw [Int.tdiv_eq_ediv_of_nonneg (by omega)]; exact d1
 have d4 : (b : Int).tdiv (g : Int) = (q : Int):=by rw [Int.tdiv_eq_ediv_of_nonneg (by omega)]; exact d2
 have d5 : IntKind.u64.wrap (p : Int) = (p : Int):=by rw [IntKind.wrap_u64]; omega
 have d6 : IntKind.u64.wrap (q : Int) = (q : Int):=by rw [IntKind.wrap_u64]; omega
 have HA:=hide ha
 have HB:=hide hb
 have HG:=hide hg
 clear hp' hq' ha hb hg hgl
 obtain ⟨s1,hs1⟩ : ∃ s1,s1 = decide (x < 0):=⟨_,rfl⟩
 go_enter Tryz.func24,Tryz.ntmps24
 go_wp2_with fail
 refine (size_any x hx1 hx2 _).mono ?_
 rintro e w1 ⟨rfl,hw⟩
 obtain rfl:=hw.symm
 clear hw
 rw [← unhide HA]
 go_wp2_with fail
 refine (size_any y hy1 hy2 _).mono ?_
 rintro e w1 ⟨rfl,hw⟩
 obtain rfl:=hw.symm
 clear hw
 rw [← unhide HB]
 go_wp2_with fail
 refine (gcdWords_any a b _ ha64 hb64).mono ?_
 rintro e w1 ⟨rfl,k,rfl⟩
 rw [show Nat.gcd a b = g from by rw [unhide HA,unhide HB,unhide HG]]
 go_wp2
 have hb0 : But [] w ((w.alloc (.cells #[.bool false,.int .u64 0,.int .u64 0,.pointer none] 27)).drewN k):=((But.refl _ _).alloc _).drewN k
 have c0 : ((w.alloc (.cells #[.bool false,.int .u64 0,.int .u64 0,.pointer none] 27)).drewN k).cell? ⟨w.heap.size,0,none⟩ = some (.bool false):=by simp
 have c1 : ((w.alloc (.cells #[.bool false,.int .u64 0,.int .u64 0,.pointer none] 27)).drewN k).cell? ⟨w.heap.size,1,none⟩ = some (.int .u64 0):=by simp
 have c2 : ((w.alloc (.cells #[.bool false,.int .u64 0,.int .u64 0,.pointer none] 27)).drewN k).cell? ⟨w.heap.size,2,none⟩ = some (.int .u64 0):=by simp
 have c3 : ((w.alloc (.cells #[.bool false,.int .u64 0,.int .u64 0,.pointer none] 27)).drewN k).cell? ⟨w.heap.size,3,none⟩ = some (.pointer none):=by simp
 have hf : ∀ j,((w.alloc (.cells #[.bool false,.int .u64 0,.int .u64 0,.pointer none] 27)).drewN k).frozen? ⟨w.heap.size,j,none⟩ = false:=by intro j; simp
 have hsz : w.heap.size < ((w.alloc (.cells #[.bool false,.int .u64 0,.int .u64 0,.pointer none] 27)).drewN k).heap.size:=by simp
 generalize (w.alloc (.cells #[.bool false,.int .u64 0,.int .u64 0,.pointer none] 27)).drewN k = W at *
 obtain ⟨gb,hgb⟩ : ∃ gb,gb = w.heap.size:=⟨_,rfl⟩
 rw [← hgb] at c0 c1 c2 c3 hf hsz
 rw [← hgb]
 have HGB:=hide hgb
 clear hgb
 go_region_with (go_at_call 67; refine (ofWords_any (decide (x < 0) != decide (y < 0)) p q hp64 hq64 hq0 r hr _).mono ?_; rintro e w1 ⟨rfl,hb1⟩; have B1 : But [] W w1:=(by first | exact hb1 | exact (But.refl _ _).drew.trans' hb1); have k0:=B1.cell_some c0 (by simp); have k1:=B1.cell_some c1 (by simp); have k2:=B1.cell_some c2 (by simp); have k3:=B1.cell_some c3 (by simp); have f0:=(B1.frozen (p:=⟨gb,0,none⟩) hsz (by simp)).trans (hf 0); have f1:=(B1.frozen (p:=⟨gb,1,none⟩) hsz (by simp)).trans (hf 1); have f2:=(B1.frozen (p:=⟨gb,2,none⟩) hsz (by simp)).trans (hf 2); have f3:=(B1.frozen (p:=⟨gb,3,none⟩) hsz (by simp)).trans (hf 3))
 all_goals go_wp2
 all_goals
  have hge : w.heap.size ≤ gb:=Nat.le_of_eq (unhide HGB).symm
  exact bodyPost_ret (v:=.tuple #[.agg #[.bool r,.int .u64 (p : Int),.int .u64 ((q : Int) - 1),.pointer none],.nilIface]) (by simp [results,Tryz.results24,go_sem,k0,k1,k2,k3]) rfl ⟨rfl,(((((hb0.trans' B1).setCell (.inr hge) _).setCell (.inr hge) _).setCell (.inr hge) _).setCell (.inr hge) _)⟩
end Go.Proofs.YtjbboicccddhbaaGreatDoor

namespace Go.Proofs.YtjbboicccddhbaaGreatDoor
open Go.RowKit

theorem mem_drop {rs : List Nat} {B : Nat} (h : ∀ x ∈ rs,x < B) (i : Nat) : ∀ x ∈ rs.drop i,x < B:=fun x hx => h x (List.mem_of_mem_drop hx)
theorem Seg.but_nil {w w' : World} {g o : Nat} {rs : List Nat} (hb : But [] w w') (h : Seg w g o rs) : Seg w' g o rs:=h.but hb (by simp)
/-- words are added to the words of a row from a place on, and nothing is carried beyond it -/
theorem addAt_any (g h cap : Nat) (rs : List Nat) (H : Nat) (vy : Value) (w : World) (hs : Seg w g 0 rs) (hh : h < rs.length) (hc : rs.length - h ≤ cap) (hy : Sl .u64 w vy (wd 18446744073709551616 H)) (hoff : 0 < (wd 18446744073709551616 H).length→Off g vy) (hm : ∀ x ∈ rs,x < 18446744073709551616) (hfit : vl 18446744073709551616 rs + 18446744073709551616 ^ h * H < 18446744073709551616 ^ rs.length) (hl : rs.length < 2147483648) :
  Calls Tryz.prog 156 #[.slice (some ⟨g,h,none⟩) (rs.length - h) cap,vy] w fun e w' => ∃ (rs2 : List Nat) (c : Nat),e = .returned (.int .u64 (c : Nat))∧rs2.length = rs.length∧(∀ x ∈ rs2,x < 18446744073709551616)∧vl 18446744073709551616 rs2 = vl 18446744073709551616 rs + 18446744073709551616 ^ h * H∧Seg w' g 0 rs2∧But [g] w w':=by
 have hld : (rs.drop h).length = rs.length - h:=List.length_drop
 have hsub:=hs.sub h (rs.length - h) (by omega)
 have e0 : (rs.drop h).take (rs.length - h) = rs.drop h:=List.take_of_length_le (by rw [hld]; exact Nat.le_refl _)
 rw [e0,Nat.zero_add] at hsub
 have hsplit : 18446744073709551616 ^ rs.length = 18446744073709551616 ^ h * 18446744073709551616 ^ (rs.length - h):=by rw [← Nat.pow_add]; congr 1; omega
 have hH : H < 18446744073709551616 ^ (rs.length - h):=by
  have : 18446744073709551616 ^ h * H < 18446744073709551616 ^ h * 18446744073709551616 ^ (rs.length - h):=by rw [← hsplit]; omega
  exact Nat.lt_of_mul_lt_mul_left this
 have hwl : (wd 18446744073709551616 H).length ≤ rs.length - h:=wd_length_le (by omega) H _ hH
 have hA:=addTo_any g h cap (rs.drop h) (wd 18446744073709551616 H) vy w hsub (by rw [hld]; exact hc) hy hoff (mem_drop hm h) (wd_mem (by omega) H) (by rw [hld]; exact hwl) (by rw [hld]; omega)
 rw [hld,vl_wd (by omega)] at hA
 refine hA.mono ?_
 rintro e w' ⟨c,ws,rfl,hc1,hlw,hmw,hv,hsg,hpt⟩
 have hlt : (rs.take h).length = h:=by rw [List.length_take]; omega
 have hd : vl 18446744073709551616 rs = vl 18446744073709551616 (rs.take h) + 18446744073709551616 ^ h * vl 18446744073709551616 (rs.drop h):=by
  have:=congrArg (vl 18446744073709551616) (List.take_append_drop h rs)
  rw [vl_append,hlt] at this
  exact this.symm
 have hc0 : c = 0:=by
  rcases Nat.eq_zero_or_pos c with h0 | h0
  ·exact h0
  ·exfalso
   have h1 : 18446744073709551616 ^ (rs.length - h) ≤ c * 18446744073709551616 ^ (rs.length - h):=Nat.le_mul_of_pos_left _ h0
   have h2 : 18446744073709551616 ^ h * 18446744073709551616 ^ (rs.length - h) ≤ 18446744073709551616 ^ h * (vl 18446744073709551616 (rs.drop h) + H):=Nat.mul_le_mul_left _ (by omega)
   rw [Nat.mul_add,← hsplit] at h2
   omega
 subst hc0
 have hW:=hs.whole hpt hsg hlw (by omega)
 have e1 : rs.drop (h + (rs.length - h)) = []:=List.drop_eq_nil_of_le (by omega)
 rw [e1,List.append_nil] at hW
 refine ⟨rs.take h ++ ws,0,rfl,by rw [List.length_append,hlt,hlw]; omega,?_,?_,hW,hpt.but⟩
 ·intro x hx
  rcases List.mem_append.1 hx with h1 | h1
  ·exact hm x (List.mem_of_mem_take h1)
  ·exact hmw x h1
 ·rw [vl_append,hlt,hd]
  have hv' : vl 18446744073709551616 ws = vl 18446744073709551616 (rs.drop h) + H:=by omega
  rw [hv',Nat.mul_add]; omega

/-- where a product lies: in a block of its own, or it is the other factor, where one of them is 1 -/
def MulAt (B : Nat) (v va vb : Value) (m n : Nat) : Prop:=Fresh B v ∨ (v = va∧n = 1) ∨ (v = vb∧m = 1)
theorem mulAt_off {w : World} {v va vb : Value} {m n B : Nat} {xs : List Nat} (h : MulAt B v va vb m n) (hB : w.heap.size < B) (hn : n ≠ 1) (hb : Sl .u64 w vb xs) (h0 : 0 < xs.length) : Off w.heap.size v:=by
 rcases h with h | ⟨_,h⟩ | ⟨rfl,_⟩
 ·exact fun b off n c e => by have:=h b off n c e; omega
 ·exact absurd h hn
 ·exact off_fresh hb h0 _ (Nat.le_refl _)
def MulOK (k : Nat) : Prop:=∀ (va vb : Value) (m n : Nat) (w : World),Sl .u64 w va (wd 18446744073709551616 m)→Sl .u64 w vb (wd 18446744073709551616 n)→(wd 18446744073709551616 m).length + (wd 18446744073709551616 n).length ≤ k →
 Calls Tryz.prog 60 #[va,vb] w fun e w' => ∃ v',e = .returned v'∧Sl .u64 w' v' (wd 18446744073709551616 (m * n))∧But [] w w'∧MulAt w.heap.size v' va vb m n

theorem mul_lt_pow {X Y a b : Nat} (hx : X < 18446744073709551616 ^ a) (hy : Y < 18446744073709551616 ^ b) : X * Y < 18446744073709551616 ^ (a + b):=by
 rw [Nat.pow_add]
 rcases Nat.eq_zero_or_pos Y with h | h
 ·subst h; rw [Nat.mul_zero]; exact Nat.mul_pos (Nat.pow_pos (by omega)) (Nat.pow_pos (by omega))
 ·exact Nat.lt_of_lt_of_le (Nat.mul_lt_mul_of_pos_right hx h) (Nat.mul_le_mul_left _ (Nat.le_of_lt hy))
theorem lt_wd (X : Nat) : X < 18446744073709551616 ^ (wd 18446744073709551616 X).length:=lt_of_wd_length (by omega) X _ (Nat.le_refl _)
theorem wd_len_mul (X Y : Nat) : (wd 18446744073709551616 (X * Y)).length ≤ (wd 18446744073709551616 X).length + (wd 18446744073709551616 Y).length:=wd_length_le (by omega) _ _ (mul_lt_pow (lt_wd X) (lt_wd Y))
theorem vl_copy (xs : List Nat) (n : Nat) : vl 18446744073709551616 (xs ++ (List.replicate n 0).drop xs.length) = vl 18446744073709551616 xs:=by rw [vl_append,List.drop_replicate,vl_replicate]; simp
theorem mem_copy (xs : List Nat) (n : Nat) (h : ∀ x ∈ xs,x < 18446744073709551616) : ∀ x ∈ xs ++ (List.replicate n 0).drop xs.length,x < 18446744073709551616:=fun x hx => by
 rcases List.mem_append.1 hx with h1 | h1
 ·exact h x h1
 ·have:=List.mem_of_mem_drop h1
  rw [List.mem_replicate] at this
  omega
theorem len_copy (xs : List Nat) (n : Nat) (h : xs.length ≤ n) : (xs ++ (List.replicate n 0).drop xs.length).length = n:=by simp; omega
theorem halves_sum (X Y h : Nat) : (X % 18446744073709551616 ^ h) * Y + 18446744073709551616 ^ h * (X / 18446744073709551616 ^ h * Y) = X * Y:=by
 have:=Nat.mod_add_div X (18446744073709551616 ^ h)
 generalize X % 18446744073709551616 ^ h = a at *
 generalize X / 18446744073709551616 ^ h = b at *
 generalize 18446744073709551616 ^ h = P at *
 subst this
 grind

set_option maxHeartbeats 4000000 in
set_option maxRecDepth 100000 in
theorem mulHalves_any (k : Nat) (IH : MulOK k) (va vb : Value) (X Y d : Nat) (w : World) (ha : Sl .u64 w va (wd 18446744073709551616 X)) (hb : Sl .u64 w vb (wd 18446744073709551616 Y)) (h0 : 0 < d) (hx : d < (wd 18446744073709551616 X).length) (hy : 0 < (wd 18446744073709551616 Y).length) (hy1 : Y ≠ 1) (hk1 : d + (wd 18446744073709551616 Y).length ≤ k) (hk2 : (wd 18446744073709551616 X).length - d + (wd 18446744073709551616 Y).length ≤ k) (hlx : (wd 18446744073709551616 X).length < 268435456) (hly : (wd 18446744073709551616 Y).length < 268435456) :
  Calls Tryz.prog 114 #[va,vb,.int .i64 (d : Int)] w fun e w' => ∃ v',e = .returned v'∧Sl .u64 w' v' (wd 18446744073709551616 (X * Y))∧But [] w w'∧Fresh w.heap.size v':=by
 have hmk:=fun wx => run_make64p wx (wd 18446744073709551616 X).length (wd 18446744073709551616 Y).length (by omega)
 have L1:=wd_len_mod d X
 have L2:=wd_len_div d X
 have L3:=wd_len_mul (X % 18446744073709551616 ^ d) Y
 have L4:=wd_len_mul (X / 18446744073709551616 ^ d) Y
 have V1:=vl_wd (B:=18446744073709551616) (by omega) (X % 18446744073709551616 ^ d * Y)
 have M1:=wd_mem (B:=18446744073709551616) (by omega) (X % 18446744073709551616 ^ d * Y)
 have HS:=halves_sum X Y d
 have HXY:=mul_lt_pow (lt_wd X) (lt_wd Y)
 have hal:=ha.but_nil (but_made w ((wd 18446744073709551616 X).length + (wd 18446744073709551616 Y).length) 24)
 have hbl:=hb.but_nil (but_made w ((wd 18446744073709551616 X).length + (wd 18446744073709551616 Y).length) 24)
 have sg0:=Seg.made w ((wd 18446744073709551616 X).length + (wd 18446744073709551616 Y).length) 24
 have bm:=but_made w ((wd 18446744073709551616 X).length + (wd 18446744073709551616 Y).length) 24
 have low:=natLow_any va X d (w.alloc (.cells (madeCells #[.int .u64 0] ((wd 18446744073709551616 X).length + (wd 18446744073709551616 Y).length)) 24)) hal (by omega) (by omega)
 have hsz0 : w.heap.size < (w.alloc (.cells (madeCells #[.int .u64 0] ((wd 18446744073709551616 X).length + (wd 18446744073709551616 Y).length)) 24)).heap.size:=by simp
 obtain ⟨a1,c1,rfl,hc1,-⟩:=id ha
 obtain ⟨a2,c2,rfl,hc2,-⟩:=id hb
 have HV1:=hide V1
 have HM1:=hide M1
 have HHS:=hide HS
 have HXYl:=hide HXY
 have HAL:=hide hal
 have HBL:=hide hbl
 have SG0:=hide sg0
 have BM:=hide bm
 have LOW:=hide low
 have HIH:=hide IH
 have HSZ:=hide hsz0
 have HL:=hide (And.intro L1 (And.intro L2 (And.intro L3 L4)))
 have HA:=hide ha
 have HB:=hide hb
 clear V1 M1 HS HXY hal hbl sg0 bm low IH ha hb L1 L2 L3 L4 hsz0
 have HLX : Hid (∀ n,n = (wd 18446744073709551616 X).length→n < 268435456):=fun n e => by rw [e]; exact hlx
 generalize hnx : (wd 18446744073709551616 X).length = nx at *
 generalize hny : (wd 18446744073709551616 Y).length = ny at *
 have NX:=hide hnx
 have NY:=hide hny
 clear hnx hny
 go_enter Tryz.func114,Tryz.ntmps114
 go_wp2_with fail
 refine (unhide LOW).mono ?_
 rintro e w1 ⟨v1,rfl,hv1,hw⟩
 obtain rfl:=hw.symm
 clear hw
 have HV:=hide hv1
 clear hv1
 go_wp2_with fail
 refine (unhide HIH v1 _ _ _ _ (unhide HV) (unhide HBL) (by have:=unhide HL; rw [unhide NY]; omega)).mono ?_
 rintro e w2 ⟨v2,rfl,hv2,hb2,-⟩
 obtain ⟨w3,hcp,HC⟩:=run_copy_seg (P:=Tryz.prog) w2 95 96 24 Tryz.underlying95 size_u64 w.heap.size 0 (nx + ny) (nx + ny) v2 (List.replicate (nx + ny) 0) (wd 18446744073709551616 (X % 18446744073709551616 ^ d * Y)) ((unhide SG0).but hb2 (by simp)) (by simp) hv2 (by have:=unhide HL; rw [List.length_replicate]; omega)
 have R1:=vl_copy (wd 18446744073709551616 (X % 18446744073709551616 ^ d * Y)) (nx + ny)
 have R2:=mem_copy (wd 18446744073709551616 (X % 18446744073709551616 ^ d * Y)) (nx + ny) (unhide HM1)
 have R3:=len_copy (wd 18446744073709551616 (X % 18446744073709551616 ^ d * Y)) (nx + ny) (by have:=unhide HL; omega)
 rw [unhide HV1] at R1
 have hB3 : But [] w w3:=((unhide BM).trans' hb2).trans (unhide HC).2.but (fun x hx => by simp at hx; subst hx; exact .inr (Nat.le_refl _))
 have hbx : But [w.heap.size] (w.alloc (.cells (madeCells #[.int .u64 0] (nx + ny)) 24)) w3:=(But.of_nil hb2).trans (unhide HC).2.but (fun x hx => .inl hx)
 have hA3 : Sl .u64 w3 (.slice a1 nx c1) (wd 18446744073709551616 X):=(unhide HA).but_nil hB3
 have hY3 : Sl .u64 w3 (.slice a2 ny c2) (wd 18446744073709551616 Y):=(unhide HB).but_nil hB3
 have hsg3:=(unhide HC).1
 have hgs : w.heap.size < w3.heap.size:=Nat.lt_of_lt_of_le (unhide HSZ) (Nat.le_trans hb2.size (unhide HC).2.but.size)
 generalize wd 18446744073709551616 (X % 18446744073709551616 ^ d * Y) ++ (List.replicate (nx + ny) 0).drop (wd 18446744073709551616 (X % 18446744073709551616 ^ d * Y)).length = r1 at *
 have hA:=hide (fun (v4 : Value) (W : World) (h4 : Sl .u64 W v4 (wd 18446744073709551616 (X / 18446744073709551616 ^ d * Y))) (hO : Off w.heap.size v4) (hS : Seg W w.heap.size 0 r1) => addAt_any w.heap.size d (r1.length - d) r1 (X / 18446744073709551616 ^ d * Y) v4 W hS (by omega) (Nat.le_refl _) h4 (fun _ => hO) R2 (by rw [R1,unhide HHS,R3]; exact unhide HXYl) (by omega))
 rw [R3] at hA
 have HB3:=hide hB3
 have HA3:=hide hA3
 have HY3:=hide hY3
 have HSG3:=hide hsg3
 have HR:=hide (And.intro R1 (And.intro R2 R3))
 have HGS:=hide hgs
 clear R1 R2 R3 hB3 hbx hA3 hY3 hsg3 hb2 hv2 HC HV hgs
 have i1 : (0 : Int) ≤ (d : Int):=by omega
 have i2 : (d : Int) < ((nx + ny : Nat) : Int):=by omega
 go_wp2
 go_region_with (first
  | (go_at_call 160; refine (natHigh_any (.slice a1 nx c1) X d _ (by exact unhide HA3) (by rw [unhide NX]; omega) (by omega)).mono ?_; rintro e w4 ⟨v4,rfl,hv4,rfl⟩)
  | (go_at_call 60; refine (unhide HIH v4 (.slice a2 ny c2) _ _ _ (by exact hv4) (by exact unhide HY3) (by have:=unhide HL; rw [unhide NY]; omega)).mono ?_; rintro e w5 ⟨v5,rfl,hv5,hb5,hf5⟩)
  | (go_at_call 156; refine (unhide hA v5 _ (by exact hv5) (by exact mulAt_off hf5 (by exact unhide HGS) hy1 (unhide HB) (by rw [unhide NY]; exact hy)) (by exact Seg.but_nil hb5 (by exact unhide HSG3))).mono ?_; rintro e w6 ⟨rs2,c,rfl,hl2,hm2,hv6,hs6,hb6⟩))
 all_goals
  have hB5 : But [] w w5:=(unhide HB3).trans' ((But.refl _ _).drew.trans' hb5)
  have HB6 : Hid (But [] w w6):=hB5.trans hb6 (fun x hx => by simp at hx; subst hx; exact .inr (Nat.le_refl _))
  have hsl:=hs6.sl (nx + ny) (by rw [hl2]; exact Nat.le_refl _)
  rw [hl2] at hsl
  rw [(unhide HR).1,unhide HHS] at hv6
  have HSL:=hide hsl
  have HM2:=hide hm2
  have HV6:=hide hv6
  have HL2 : rs2.length < 2147483648:=by rw [hl2]; omega
  clear hB5 hb5 hb6 hsl hm2 hv6 hv4 hv5 hf5 hs6 hl2 hA
  go_wp2_with fail
  refine (trimmed_any _ rs2 _ (unhide HSL) (unhide HM2) HL2).mono ?_
  rintro e w7 ⟨v7,rfl,hv7,hw,hsb⟩
  obtain rfl:=hw.symm
  clear hw
  rw [unhide HV6] at hv7
  have HV7:=hide hv7
  have HSB:=hide hsb
  clear hv7 hsb
  go_wp2
  go_ret
  exact ⟨v7,rfl,unhide HV7,unhide HB6,fresh_of (unhide HSB) (Nat.le_refl _)⟩
end Go.Proofs.YtjbboicccddhbaaGreatDoor

namespace Go.Proofs.YtjbboicccddhbaaGreatDoor
open Go.RowKit

theorem kara_sum (X Y P : Nat) (x0 x1 y0 y1 : Nat) (hX : X = x0 + P * x1) (hY : Y = y0 + P * y1) : x0 * y0 + P * ((x0 + x1) * (y0 + y1) - x0 * y0 - x1 * y1) + P * P * (x1 * y1) = X * Y:=by
 have e : (x0 + x1) * (y0 + y1) - x0 * y0 - x1 * y1 = x0 * y1 + x1 * y0:=by
  have : (x0 + x1) * (y0 + y1) = x0 * y0 + x1 * y1 + (x0 * y1 + x1 * y0):=by grind
  omega
 rw [e,hX,hY]
 grind
theorem kara_le1 (x0 x1 y0 y1 : Nat) : x0 * y0 ≤ (x0 + x1) * (y0 + y1):=Nat.mul_le_mul (by omega) (by omega)
theorem kara_le2 (x0 x1 y0 y1 : Nat) : x1 * y1 ≤ (x0 + x1) * (y0 + y1) - x0 * y0:=by
 have : (x0 + x1) * (y0 + y1) = x0 * y0 + x1 * y1 + (x0 * y1 + x1 * y0):=by grind
 omega
theorem wd_len_add (X Y k : Nat) (hx : X < 18446744073709551616 ^ k) (hy : Y < 18446744073709551616 ^ k) : (wd 18446744073709551616 (X + Y)).length ≤ k + 1:=wd_length_le (by omega) _ _ (by rw [Nat.pow_succ]; omega)
/-- a row behind a copy into its middle, of which nothing was there -/
theorem vl_mid (rs xs : List Nat) (o : Nat) (hl : o + xs.length ≤ rs.length) (hz : ∀ j,o ≤ j→rs[j]?.getD 0 = 0) : vl 18446744073709551616 (rs.take o ++ (xs ++ ((rs.drop o).take (rs.length - o)).drop xs.length) ++ rs.drop (o + (rs.length - o))) = vl 18446744073709551616 rs + 18446744073709551616 ^ o * vl 18446744073709551616 xs:=by
 have lt : (rs.take o).length = o:=by rw [List.length_take]; omega
 have e1 : rs.drop (o + (rs.length - o)) = []:=List.drop_eq_nil_of_le (by omega)
 have z1 : vl 18446744073709551616 (rs.drop o) = 0:=vl_zeros _ _ (fun j hj => by rw [List.getElem?_drop]; exact hz _ (by omega))
 have z2 : vl 18446744073709551616 (((rs.drop o).take (rs.length - o)).drop xs.length) = 0:=vl_zeros _ _ (fun j hj => by
  rw [List.getElem?_drop,List.getElem?_take]
  split
  ·rw [List.getElem?_drop]; exact hz _ (by omega)
  ·rfl)
 have h1:=congrArg (vl 18446744073709551616) (List.take_append_drop o rs)
 rw [vl_append,z1,Nat.mul_zero,Nat.add_zero] at h1
 rw [e1,List.append_nil,vl_append,lt,vl_append,z2,Nat.mul_zero,Nat.add_zero,h1]
theorem zero_copy (xs : List Nat) (n j : Nat) (h : xs.length ≤ j) : (xs ++ (List.replicate n 0).drop xs.length)[j]?.getD 0 = 0:=by
 rw [List.getElem?_append_right h,List.getElem?_drop,List.getElem?_replicate]
 split <;> rfl

set_option maxHeartbeats 4000000 in
set_option maxRecDepth 100000 in
theorem karatsuba_any (k : Nat) (IH : MulOK k) (va vb : Value) (X Y d : Nat) (w : World) (ha : Sl .u64 w va (wd 18446744073709551616 X)) (hb : Sl .u64 w vb (wd 18446744073709551616 Y)) (hd : 2 < d) (hx : d < (wd 18446744073709551616 X).length) (hxx : (wd 18446744073709551616 X).length ≤ 2 * d) (hy : d < (wd 18446744073709551616 Y).length) (hyy : (wd 18446744073709551616 Y).length ≤ (wd 18446744073709551616 X).length) (hk1 : 2 * d + 2 ≤ k) (hlx : (wd 18446744073709551616 X).length < 134217728) :
  Calls Tryz.prog 115 #[va,vb,.int .i64 (d : Int)] w fun e w' => ∃ v',e = .returned v'∧Sl .u64 w' v' (wd 18446744073709551616 (X * Y))∧But [] w w'∧Fresh w.heap.size v':=by
 obtain ⟨x0,ex0⟩ : ∃ x0,x0 = X % 18446744073709551616 ^ d:=⟨_,rfl⟩
 obtain ⟨x1,ex1⟩ : ∃ x1,x1 = X / 18446744073709551616 ^ d:=⟨_,rfl⟩
 obtain ⟨y0,ey0⟩ : ∃ y0,y0 = Y % 18446744073709551616 ^ d:=⟨_,rfl⟩
 obtain ⟨y1,ey1⟩ : ∃ y1,y1 = Y / 18446744073709551616 ^ d:=⟨_,rfl⟩
 have hp : 0 < 18446744073709551616 ^ d:=Nat.pow_pos (by omega)
 have bx0 : x0 < 18446744073709551616 ^ d:=by rw [ex0]; exact Nat.mod_lt _ hp
 have by0 : y0 < 18446744073709551616 ^ d:=by rw [ey0]; exact Nat.mod_lt _ hp
 have lx1 : (wd 18446744073709551616 x1).length = (wd 18446744073709551616 X).length - d:=by rw [ex1]; exact wd_len_div d X
 have ly1 : (wd 18446744073709551616 y1).length = (wd 18446744073709551616 Y).length - d:=by rw [ey1]; exact wd_len_div d Y
 have bx1 : x1 < 18446744073709551616 ^ d:=lt_of_wd_length (by omega) _ _ (by omega)
 have by1 : y1 < 18446744073709551616 ^ d:=lt_of_wd_length (by omega) _ _ (by omega)
 have lx0 : (wd 18446744073709551616 x0).length ≤ d:=wd_length_le (by omega) _ _ bx0
 have ly0 : (wd 18446744073709551616 y0).length ≤ d:=wd_length_le (by omega) _ _ by0
 have lsx:=wd_len_add x0 x1 d bx0 bx1
 have lsy:=wd_len_add y0 y1 d by0 by1
 have lp:=wd_len_mul (x0 + x1) (y0 + y1)
 have ll:=wd_len_mul x0 y0
 have lh:=wd_len_mul x1 y1
 have hsum:=kara_sum X Y (18446744073709551616 ^ d) x0 x1 y0 y1 (by rw [ex0,ex1]; exact (Nat.mod_add_div _ _).symm) (by rw [ey0,ey1]; exact (Nat.mod_add_div _ _).symm)
 have hle1:=kara_le1 x0 x1 y0 y1
 have hle2:=kara_le2 x0 x1 y0 y1
 have hXY:=mul_lt_pow (lt_wd X) (lt_wd Y)
 have lc1 : (wd 18446744073709551616 ((x0 + x1) * (y0 + y1) - x0 * y0)).length ≤ (wd 18446744073709551616 ((x0 + x1) * (y0 + y1))).length:=wd_len_mono (Nat.sub_le _ _)
 obtain ⟨a1,c1,rfl,hc1,-⟩:=id ha
 obtain ⟨a2,c2,rfl,hc2,-⟩:=id hb
 have low1:=fun W (h : Sl .u64 W _ _) => natLow_any (.slice a1 (wd 18446744073709551616 X).length c1) X d W h (by omega) (by omega)
 have low2:=fun W (h : Sl .u64 W _ _) => natLow_any (.slice a2 (wd 18446744073709551616 Y).length c2) Y d W h (by omega) (by omega)
 have hi1:=fun W (h : Sl .u64 W _ _) => natHigh_any (.slice a1 (wd 18446744073709551616 X).length c1) X d W h (by omega) (by omega)
 have hi2:=fun W (h : Sl .u64 W _ _) => natHigh_any (.slice a2 (wd 18446744073709551616 Y).length c2) Y d W h (by omega) (by omega)
 rw [← ex0] at low1
 rw [← ey0] at low2
 rw [← ex1] at hi1
 rw [← ey1] at hi2
 have LOW1:=hide low1
 have LOW2:=hide low2
 have HI1:=hide hi1
 have HI2:=hide hi2
 have HA:=hide ha
 have HB:=hide hb
 have HIH:=hide IH
 have HSUM:=hide hsum
 have HLE1:=hide hle1
 have HLE2:=hide hle2
 have HXY:=hide hXY
 have HLEN:=hide (And.intro lx1 (And.intro ly1 (And.intro lx0 (And.intro ly0 (And.intro lsx (And.intro lsy (And.intro lp (And.intro ll (And.intro lh lc1)))))))))
 have HBND:=hide (And.intro bx0 (And.intro by0 (And.intro bx1 by1)))
 have hmk:=fun wx => run_make64p wx (wd 18446744073709551616 X).length (wd 18446744073709551616 Y).length (by omega)
 clear low1 low2 hi1 hi2 ha hb IH hsum hle1 hle2 hXY lx1 ly1 lx0 ly0 lsx lsy lp ll lh lc1 bx0 bx1 by0 by1 hp ex0 ex1 ey0 ey1
 generalize hnx : (wd 18446744073709551616 X).length = nx at *
 generalize hny : (wd 18446744073709551616 Y).length = ny at *
 clear hnx hny
 go_enter Tryz.func115,Tryz.ntmps115
 go_wp2_with fail
 refine (unhide LOW1 _ (unhide HA)).mono ?_
 rintro e w1 ⟨vx0,rfl,hvx0,hw⟩
 obtain rfl:=hw.symm
 have HX0:=hide hvx0
 clear hw hvx0
 go_wp2_with fail
 refine (unhide HI1 _ (unhide HA)).mono ?_
 rintro e w1 ⟨vx1,rfl,hvx1,hw⟩
 obtain rfl:=hw.symm
 have HX1:=hide hvx1
 clear hw hvx1
 go_wp2_with fail
 refine (unhide LOW2 _ (unhide HB)).mono ?_
 rintro e w1 ⟨vy0,rfl,hvy0,hw⟩
 obtain rfl:=hw.symm
 have HY0:=hide hvy0
 clear hw hvy0
 go_wp2_with fail
 refine (unhide HI2 _ (unhide HB)).mono ?_
 rintro e w1 ⟨vy1,rfl,hvy1,hw⟩
 obtain rfl:=hw.symm
 have HY1:=hide hvy1
 clear hw hvy1
 go_wp2_with fail
 refine (unhide HIH vx0 vy0 x0 y0 _ (unhide HX0) (unhide HY0) (by have:=unhide HLEN; omega)).mono ?_
 rintro e w1 ⟨vl0,rfl,hvl,hb1,-⟩
 have HL:=hide hvl
 have B1:=hide hb1
 clear hvl hb1
 go_wp2_with fail
 refine (unhide HIH vx1 vy1 x1 y1 _ ((unhide HX1).but_nil (unhide B1)) ((unhide HY1).but_nil (unhide B1)) (by have:=unhide HLEN; omega)).mono ?_
 rintro e w2 ⟨vh0,rfl,hvh,hb2,-⟩
 have HH:=hide hvh
 have B2 : Hid (But [] w w2):=(unhide B1).trans' hb2
 have HL2:=hide ((unhide HL).but_nil hb2)
 clear hvh hb2
 go_wp2_with fail
 refine (natAdd_any vx0 vx1 x0 x1 _ ((unhide HX0).but_nil (unhide B2)) ((unhide HX1).but_nil (unhide B2)) (by have:=unhide HLEN; omega) (by have:=unhide HLEN; omega)).mono ?_
 rintro e w3 ⟨vsx,rfl,hvsx,hb3⟩
 have HSX:=hide hvsx
 have B3 : Hid (But [] w w3):=(unhide B2).trans' hb3
 have B23:=hide hb3
 clear hvsx hb3
 go_wp2_with fail
 refine (natAdd_any vy0 vy1 y0 y1 _ ((unhide HY0).but_nil (unhide B3)) ((unhide HY1).but_nil (unhide B3)) (by have:=unhide HLEN; omega) (by have:=unhide HLEN; omega)).mono ?_
 rintro e w4 ⟨vsy,rfl,hvsy,hb4⟩
 have HSY:=hide hvsy
 have B4 : Hid (But [] w w4):=(unhide B3).trans' hb4
 have B24 : Hid (But [] w2 w4):=(unhide B23).trans' hb4
 have HSX4:=hide ((unhide HSX).but_nil hb4)
 clear hvsy hb4
 go_wp2_with fail
 refine (unhide HIH vsx vsy (x0 + x1) (y0 + y1) _ (unhide HSX4) (unhide HSY) (by have:=unhide HLEN; omega)).mono ?_
 rintro e w5 ⟨vp,rfl,hvp,hb5,-⟩
 have HP:=hide hvp
 have B5 : Hid (But [] w w5):=(unhide B4).trans' hb5
 have B25 : Hid (But [] w2 w5):=(unhide B24).trans' hb5
 clear hvp hb5
 go_wp2_with fail
 refine (natSub_any vp vl0 _ (x0 * y0) _ (unhide HP) ((unhide HL2).but_nil (unhide B25)) (by have:=unhide HLEN; omega) (unhide HLE1)).mono ?_
 rintro e w6 ⟨vc1,rfl,hvc1,hb6⟩
 have HC1:=hide hvc1
 have B6 : Hid (But [] w w6):=(unhide B5).trans' hb6
 have B26 : Hid (But [] w2 w6):=(unhide B25).trans' hb6
 clear hvc1 hb6
 go_wp2_with fail
 refine (natSub_any vc1 vh0 _ (x1 * y1) _ (unhide HC1) ((unhide HH).but_nil (unhide B26)) (by have:=unhide HLEN; omega) (unhide HLE2)).mono ?_
 rintro e w7 ⟨vc,rfl,hvc,hb7⟩
 have HCR:=hide hvc
 have B7 : Hid (But [] w w7):=(unhide B6).trans' hb7
 have B27 : Hid (But [] w2 w7):=(unhide B26).trans' hb7
 clear hvc hb7 B26 B25 B24 B23 B6 B5 B4 B3 B1 HX0 HX1 HY0 HY1 HSX HSY HSX4 HP HC1 HA HB HIH LOW1 LOW2 HI1 HI2
 have hbm:=but_made w7 (nx + ny) 24
 obtain ⟨w8,hcp,HC⟩:=run_copy_seg (P:=Tryz.prog) (w7.alloc (.cells (madeCells #[.int .u64 0] (nx + ny)) 24)) 95 96 24 Tryz.underlying95 size_u64 w7.heap.size 0 (nx + ny) (nx + ny) vl0 (List.replicate (nx + ny) 0) (wd 18446744073709551616 (x0 * y0)) (Seg.made _ _ _) (by simp) (((unhide HL2).but_nil (unhide B27)).but_nil hbm) (by have:=unhide HLEN; rw [List.length_replicate]; omega)
 have R1:=vl_copy (wd 18446744073709551616 (x0 * y0)) (nx + ny)
 have R2:=mem_copy (wd 18446744073709551616 (x0 * y0)) (nx + ny) (wd_mem (by omega) _)
 have R3:=len_copy (wd 18446744073709551616 (x0 * y0)) (nx + ny) (by have:=unhide HLEN; omega)
 have R4:=fun j (hj : 2 * d ≤ j) => zero_copy (wd 18446744073709551616 (x0 * y0)) (nx + ny) j (by have:=unhide HLEN; omega)
 rw [vl_wd (by omega)] at R1
 have hsg8:=(unhide HC).1
 have hb8 : But [w7.heap.size] (w7.alloc (.cells (madeCells #[.int .u64 0] (nx + ny)) 24)) w8:=(unhide HC).2.but
 have B8 : But [] w7 w8:=hbm.trans hb8 (fun x hx => by simp at hx; subst hx; exact .inr (Nat.le_refl _))
 have hg8 : w7.heap.size < w8.heap.size:=Nat.lt_of_lt_of_le (by simp) hb8.size
 generalize wd 18446744073709551616 (x0 * y0) ++ (List.replicate (nx + ny) 0).drop (wd 18446744073709551616 (x0 * y0)).length = r1 at *
 have hsub:=hsg8.sub (2 * d) (r1.length - 2 * d) (by omega)
 have lsub : ((r1.drop (2 * d)).take (r1.length - 2 * d)).length = r1.length - 2 * d:=by rw [List.length_take,List.length_drop]; omega
 obtain ⟨w9,hcp2,HC2⟩:=run_copy_seg (P:=Tryz.prog) w8 95 96 24 Tryz.underlying95 size_u64 w7.heap.size (0 + 2 * d) (r1.length - 2 * d) (r1.length - 2 * d) vh0 ((r1.drop (2 * d)).take (r1.length - 2 * d)) (wd 18446744073709551616 (x1 * y1)) hsub lsub.symm ((unhide HH).but_nil ((unhide B27).trans' B8)) (by have:=unhide HLEN; rw [lsub]; omega)
 have hS2:=hsg8.whole ((unhide HC2).2.wide (Nat.le_refl _) (n':=r1.length - 2 * d) (by have:=unhide HLEN; omega)) (unhide HC2).1 (by rw [List.length_append,List.length_drop,lsub]; have:=unhide HLEN; omega) (by omega)
 have V2:=vl_mid r1 (wd 18446744073709551616 (x1 * y1)) (2 * d) (by have:=unhide HLEN; omega) (fun j hj => R4 j hj)
 rw [vl_wd (by omega),R1] at V2
 have M2 : ∀ x ∈ r1.take (2 * d) ++ (wd 18446744073709551616 (x1 * y1) ++ ((r1.drop (2 * d)).take (r1.length - 2 * d)).drop (wd 18446744073709551616 (x1 * y1)).length) ++ r1.drop (2 * d + (r1.length - 2 * d)),x < 18446744073709551616:=by
  intro x hx
  simp only [List.mem_append] at hx
  rcases hx with (hx | hx | hx) | hx
  ·exact R2 x (List.mem_of_mem_take hx)
  ·exact wd_mem (by omega) _ x hx
  ·exact R2 x (List.mem_of_mem_drop (List.mem_of_mem_take (List.mem_of_mem_drop hx)))
  ·exact R2 x (List.mem_of_mem_drop hx)
 have L2 : (r1.take (2 * d) ++ (wd 18446744073709551616 (x1 * y1) ++ ((r1.drop (2 * d)).take (r1.length - 2 * d)).drop (wd 18446744073709551616 (x1 * y1)).length) ++ r1.drop (2 * d + (r1.length - 2 * d))).length = nx + ny:=by
  simp only [List.length_append,List.length_take,List.length_drop]
  have:=unhide HLEN
  omega
 rw [Nat.zero_add] at hS2 hcp2
 generalize r1.take (2 * d) ++ (wd 18446744073709551616 (x1 * y1) ++ ((r1.drop (2 * d)).take (r1.length - 2 * d)).drop (wd 18446744073709551616 (x1 * y1)).length) ++ r1.drop (2 * d + (r1.length - 2 * d)) = r2 at *
 have hfit : vl 18446744073709551616 r2 + 18446744073709551616 ^ d * ((x0 + x1) * (y0 + y1) - x0 * y0 - x1 * y1) = X * Y:=by
  rw [V2,← unhide HSUM,Nat.two_mul,Nat.pow_add]; omega
 have hb9 : But [w7.heap.size] w8 w9:=(unhide HC2).2.but
 have B9 : But [] w7 w9:=B8.trans hb9 (fun x hx => by simp at hx; subst hx; exact .inr (Nat.le_refl _))
 have hadd:=addAt_any w7.heap.size d (r2.length - d) r2 ((x0 + x1) * (y0 + y1) - x0 * y0 - x1 * y1) vc w9 hS2 (by omega) (Nat.le_refl _) ((unhide HCR).but_nil B9) (fun hp => off_fresh (unhide HCR) hp _ (Nat.le_refl _)) M2 (by rw [hfit,L2]; exact unhide HXY) (by omega)
 rw [L2,hfit] at hadd
 rw [R3] at hcp2
 have HADD:=hide hadd
 have HB9 : Hid (But [] w w9):=(unhide B7).trans' B9
 have HGE : w.heap.size ≤ w7.heap.size:=(unhide B7).size
 clear hadd hfit hS2 V2 M2 L2 hb9 B9 R1 R2 R3 R4 HC HC2 hsub lsub hsg8 hb8 B8 hg8 hbm HCR HH HL HL2 HXY HSUM HLE1 HLE2 HBND HLEN B7 B27 B2
 have i1 : (0 : Int) ≤ (d : Int):=by omega
 have i2 : (d : Int) < ((nx + ny : Nat) : Int):=by omega
 have i3 : (2 * (d : Int)) < ((nx + ny : Nat) : Int):=by omega
 go_wp2_with fail
 refine (unhide HADD).mono ?_
 rintro e w10 ⟨rs2,c,rfl,hl2,hm2,hv2,hs2,hb2⟩
 have hB10 : Hid (But [] w w10):=(unhide HB9).trans hb2 (fun x hx => by simp at hx; subst hx; exact .inr HGE)
 have hsl:=hs2.sl (nx + ny) (by rw [hl2]; exact Nat.le_refl _)
 rw [hl2] at hsl
 have HSL:=hide hsl
 have HM2:=hide hm2
 have HV2:=hide hv2
 have HL2 : rs2.length < 2147483648:=by rw [hl2]; omega
 clear hsl hm2 hv2 hl2 hs2 hb2 HADD HB9
 go_wp2_with fail
 refine (trimmed_any _ rs2 _ (unhide HSL) (unhide HM2) HL2).mono ?_
 rintro e w11 ⟨v7,rfl,hv7,hw,hsb⟩
 obtain rfl:=hw.symm
 clear hw
 rw [unhide HV2] at hv7
 have HV7:=hide hv7
 have HSB:=hide hsb
 clear hv7 hsb
 go_wp2
 go_ret
 exact ⟨v7,rfl,unhide HV7,unhide hB10,fresh_of (unhide HSB) HGE⟩

set_option maxHeartbeats 4000000 in
set_option maxRecDepth 100000 in
theorem natMul_long (k : Nat) (X Y : Nat) (IH : 40 < (wd 18446744073709551616 Y).length→MulOK k) (va vb : Value) (w : World) (ha : Sl .u64 w va (wd 18446744073709551616 X)) (hb : Sl .u64 w vb (wd 18446744073709551616 Y)) (hle : (wd 18446744073709551616 Y).length ≤ (wd 18446744073709551616 X).length) (hk : (wd 18446744073709551616 X).length + (wd 18446744073709551616 Y).length ≤ k + 1) (hl : (wd 18446744073709551616 X).length < 134217728) (u v : Value) (huv : (u = va∧v = vb) ∨ ((wd 18446744073709551616 Y).length < (wd 18446744073709551616 X).length∧u = vb∧v = va)) :
  Calls Tryz.prog 60 #[u,v] w fun e w' => ∃ v',e = .returned v'∧Sl .u64 w' v' (wd 18446744073709551616 (X * Y))∧But [] w w'∧(Fresh w.heap.size v' ∨ (v' = va∧Y = 1)):=by
 obtain ⟨a1,c1,rfl,hc1,-⟩:=id ha
 obtain ⟨a2,c2,rfl,hc2,-⟩:=id hb
 by_cases h0 : (wd 18446744073709551616 Y).length = 0
 ·have e : Y = 0:=(wd_len_zero (by omega) Y).1 h0
  subst e
  rw [Nat.mul_zero,wd_zero]
  simp only [wd_zero,List.length_nil] at *
  generalize (wd 18446744073709551616 X).length = nx at *
  clear ha hb IH
  rcases huv with ⟨rfl,rfl⟩ | ⟨hlt,rfl,rfl⟩
  all_goals
   go_enter Tryz.func60,Tryz.ntmps60
   go_wp2
   go_ret
   exact ⟨_,rfl,Sl.nil _ _,But.refl _ _,.inl fun b off n c e => by simp at e⟩
 by_cases hY1 : Y = 1
 ·have HO:=hide (fun W (h : Sl .u64 W (.slice a2 (wd 18446744073709551616 Y).length c2) (wd 18446744073709551616 Y)) => natOne_any _ Y W h (by omega) true (by show true = _; rw [hY1]; rfl))
  have HA:=hide ha
  have HB:=hide hb
  have HX : Hid (wd 18446744073709551616 X = wd 18446744073709551616 (X * Y)):=by show _ = _; rw [hY1,Nat.mul_one]
  have HY:=hide hY1
  clear ha hb IH hY1
  generalize (wd 18446744073709551616 X).length = nx at *
  generalize (wd 18446744073709551616 Y).length = ny at *
  have n0 : ((ny : Int) == 0) = false:=beq_eq_false_iff_ne.2 (by omega)
  rcases huv with ⟨rfl,rfl⟩ | ⟨hlt,rfl,rfl⟩
  all_goals
   go_enter Tryz.func60,Tryz.ntmps60
   go_wp2_with fail
   refine (unhide HO _ (unhide HB)).mono ?_
   rintro e w1 ⟨rfl,h⟩
   obtain rfl:=h.symm
   clear h
   go_wp2
   go_ret
   exact ⟨_,rfl,by rw [← unhide HX]; exact unhide HA,But.refl _ _,.inr ⟨rfl,unhide HY⟩⟩
 ·have HO:=hide (fun W (h : Sl .u64 W (.slice a2 (wd 18446744073709551616 Y).length c2) (wd 18446744073709551616 Y)) => natOne_any _ Y W h (by omega) false (by show false = _; simp; exact hY1))
  have HBB:=hide hb
  by_cases hs : (wd 18446744073709551616 Y).length ≤ 40
  ·have hm:=mulWords_any _ _ _ _ w ha hb (wd_mem (by omega) X) (wd_mem (by omega) Y) (by omega) (by omega) (by omega) (by omega)
   rw [vl_wd (by omega),vl_wd (by omega)] at hm
   have HM:=hide hm
   clear hm ha hb IH
   generalize (wd 18446744073709551616 X).length = nx at *
   generalize (wd 18446744073709551616 Y).length = ny at *
   have n0 : ((ny : Int) == 0) = false:=beq_eq_false_iff_ne.2 (by omega)
   rcases huv with ⟨rfl,rfl⟩ | ⟨hlt,rfl,rfl⟩
   all_goals
    go_enter Tryz.func60,Tryz.ntmps60
    go_wp2_with fail
    refine (unhide HO _ (unhide HBB)).mono ?_
    rintro e w1 ⟨rfl,h⟩
    obtain rfl:=h.symm
    clear h
    go_wp2_with fail
    refine (unhide HM).mono ?_
    rintro e w1 ⟨v',rfl,h1,h2,h3⟩
    have H1:=hide (And.intro h1 (And.intro h2 h3))
    clear h1 h2 h3
    go_wp2
    go_ret
    exact ⟨v',rfl,(unhide H1).1,(unhide H1).2.1,.inl (unhide H1).2.2⟩
  ·obtain ⟨d,hd⟩ : ∃ d,d = ((wd 18446744073709551616 X).length + 1) / 2:=⟨_,rfl⟩
   by_cases hh : (wd 18446744073709551616 Y).length ≤ d
   ·have hm:=mulHalves_any k (IH (by omega)) _ _ X Y d w ha hb (by omega) (by omega) (by omega) hY1 (by omega) (by omega) (by omega) (by omega)
    have HM:=hide hm
    clear hm ha hb IH
    generalize (wd 18446744073709551616 X).length = nx at *
    generalize (wd 18446744073709551616 Y).length = ny at *
    have e1 : ((nx : Int) + 1) / 2 = (d : Int):=by omega
    have n0 : ((ny : Int) == 0) = false:=beq_eq_false_iff_ne.2 (by omega)
    have h1' : 2 * d ≤ nx + 1:=by omega
    have h2' : nx ≤ 2 * d:=by omega
    clear hd
    rcases huv with ⟨rfl,rfl⟩ | ⟨hlt,rfl,rfl⟩
    all_goals
     go_enter Tryz.func60,Tryz.ntmps60
     go_wp2_with fail
     refine (unhide HO _ (unhide HBB)).mono ?_
     rintro e w1 ⟨rfl,h⟩
     obtain rfl:=h.symm
     clear h
     go_wp2_with fail
     refine (unhide HM).mono ?_
     rintro e w1 ⟨v',rfl,h1,h2,h3⟩
     have H1:=hide (And.intro h1 (And.intro h2 h3))
     clear h1 h2 h3
     go_wp2
     go_ret
     exact ⟨v',rfl,(unhide H1).1,(unhide H1).2.1,.inl (unhide H1).2.2⟩
   ·have hm:=karatsuba_any k (IH (by omega)) _ _ X Y d w ha hb (by omega) (by omega) (by omega) (by omega) (by omega) (by omega) (by omega)
    have HM:=hide hm
    clear hm ha hb IH
    generalize (wd 18446744073709551616 X).length = nx at *
    generalize (wd 18446744073709551616 Y).length = ny at *
    have e1 : ((nx : Int) + 1) / 2 = (d : Int):=by omega
    have n0 : ((ny : Int) == 0) = false:=beq_eq_false_iff_ne.2 (by omega)
    have h1' : 2 * d ≤ nx + 1:=by omega
    have h2' : nx ≤ 2 * d:=by omega
    clear hd
    rcases huv with ⟨rfl,rfl⟩ | ⟨hlt,rfl,rfl⟩
    all_goals
     go_enter Tryz.func60,Tryz.ntmps60
     go_wp2_with fail
     refine (unhide HO _ (unhide HBB)).mono ?_
     rintro e w1 ⟨rfl,h⟩
     obtain rfl:=h.symm
     clear h
     go_wp2_with fail
     refine (unhide HM).mono ?_
     rintro e w1 ⟨v',rfl,h1,h2,h3⟩
     have H1:=hide (And.intro h1 (And.intro h2 h3))
     clear h1 h2 h3
     go_wp2
     go_ret
     exact ⟨v',rfl,(unhide H1).1,(unhide H1).2.1,.inl (unhide H1).2.2⟩

theorem mulOK (k : Nat) (hk : k < 134217728) : MulOK k:=by
 induction k with
 | zero =>
  intro va vb m n w ha hb h
  have hm : (wd 18446744073709551616 m).length = 0:=by omega
  have hn : (wd 18446744073709551616 n).length = 0:=by omega
  exact (natMul_long 0 m n (fun h => by omega) va vb w ha hb (by omega) (by omega) (by omega) va vb (.inl ⟨rfl,rfl⟩)).mono fun e w' ⟨v',h1,h2,h3,h4⟩ => ⟨v',h1,h2,h3,h4.elim .inl fun h => .inr (.inl h)⟩
 | succ k ih =>
  intro va vb m n w ha hb h
  rcases Nat.lt_or_ge (wd 18446744073709551616 m).length (wd 18446744073709551616 n).length with hlt | hge
  ·have:=natMul_long k n m (fun _ => ih (by omega)) vb va w hb ha (by omega) (by omega) (by omega) va vb (.inr ⟨hlt,rfl,rfl⟩)
   rw [Nat.mul_comm] at this
   exact this.mono fun e w' ⟨v',h1,h2,h3,h4⟩ => ⟨v',h1,h2,h3,h4.elim .inl fun h => .inr (.inr h)⟩
  ·exact (natMul_long k m n (fun _ => ih (by omega)) va vb w ha hb hge (by omega) (by omega) va vb (.inl ⟨rfl,rfl⟩)).mono fun e w' ⟨v',h1,h2,h3,h4⟩ => ⟨v',h1,h2,h3,h4.elim .inl fun h => .inr (.inl h)⟩
theorem natMul_any (va vb : Value) (m n : Nat) (w : World) (ha : Sl .u64 w va (wd 18446744073709551616 m)) (hb : Sl .u64 w vb (wd 18446744073709551616 n)) (hl : (wd 18446744073709551616 m).length + (wd 18446744073709551616 n).length < 134217728) :
  Calls Tryz.prog 60 #[va,vb] w fun e w' => ∃ v',e = .returned v'∧Sl .u64 w' v' (wd 18446744073709551616 (m * n))∧But [] w w'∧MulAt w.heap.size v' va vb m n :=
 mulOK _ hl va vb m n w ha hb (Nat.le_refl _)
end Go.Proofs.YtjbboicccddhbaaGreatDoor

namespace Go.Proofs.YtjbboicccddhbaaGreatDoor
open Go.RowKit

set_option maxHeartbeats 1000000 in
theorem whole_any (x : Int) (h1 : -9223372036854775808 ≤ x) (h2 : x < 9223372036854775808) (w : World) :
  Calls Tryz.prog 16 #[.int .i64 x] w fun e w' => e = .returned (.agg #[.bool (decide (x < 0)),.int .u64 ((x.natAbs : Nat) : Int),.int .u64 (((1 : Nat) : Int) - 1),.pointer none])∧But [] w w':=by
 obtain ⟨s,hs⟩ : ∃ s,s = decide (x < 0):=⟨_,rfl⟩
 obtain ⟨n,hn⟩ : ∃ n,n = x.natAbs:=⟨_,rfl⟩
 rw [← hs,← hn]
 have HS:=hide hs
 have HN:=hide hn
 go_enter Tryz.func16,Tryz.ntmps16
 go_wp2_with fail
 refine (size_any x h1 h2 _).mono ?_
 rintro e w1 ⟨rfl,hw⟩
 obtain rfl:=hw.symm
 go_wp2
 exact bodyPost_ret (v:=.agg #[.bool (decide (x < 0)),.int .u64 ((x.natAbs : Nat) : Int),.int .u64 0,.pointer none]) (by simp [results,Tryz.results16,go_sem]) rfl ⟨by rw [unhide HS,unhide HN]; rfl,(But.refl _ _).alloc _⟩
end Go.Proofs.YtjbboicccddhbaaGreatDoor

namespace Go.Proofs.YtjbboicccddhbaaGreatDoor
open Go.RowKit

set_option maxHeartbeats 2000000 in
set_option maxRecDepth 100000 in
theorem fracInt_small (n : Nat) (hn : n < 9223372036854775808) (w : World) :
  Calls Tryz.prog 120 #[.agg #[.bool false,.int .u64 (n : Int),.int .u64 0,.pointer none]] w fun e w' => e = .returned (.tuple #[.int .i64 (n : Int),.bool true])∧But [] w w':=by
 have hw : IntKind.i64.wrap (n : Int) = (n : Int):=by rw [IntKind.wrap_i64]; omega
 have hc : (n : Int) < 9223372036854775808:=by omega
 go_enter Tryz.func120,Tryz.ntmps120
 go_wp2
 go_ret2
 exact ⟨rfl,(But.refl _ _).alloc _⟩

end Go.Proofs.YtjbboicccddhbaaGreatDoor
