/- The product of two whole numbers, word by word, as the Go text of package nat does it. -/
import Derived.Test.YtndcigdphgojpaaGreatDoorKTN4
namespace Go.Proofs.YtndcigdphgojpaaGreatDoor
open Go.RowKit

theorem Seg.sub {w : World} {g o : Nat} {rs : List Nat} (h : Seg w g o rs) (i n : Nat) (hn : i + n ≤ rs.length) : Seg w g (o + i) ((rs.drop i).take n):=⟨fun j hj => by
 have hj' : j < n:=by simp only [List.length_take] at hj; omega
 have:=h (i + j) (by omega)
 rw [List.getElem?_take_of_lt hj',List.getElem?_drop,show o + i + j = o + (i + j) from by omega]
 exact this,fun h0 => h.ints (by simp only [List.length_take,List.length_drop] at h0; omega)⟩
theorem take_drop_three (rs : List Nat) (i n : Nat) (_h : i + n ≤ rs.length) : rs = rs.take i ++ (rs.drop i).take n ++ rs.drop (i + n):=by
 rw [List.append_assoc,← List.drop_drop,List.take_append_drop,List.take_append_drop]
theorem vl_zeros (B : Nat) : ∀ (rs : List Nat),(∀ j,j < rs.length→rs[j]?.getD 0 = 0)→vl B rs = 0
 | [],_ => rfl
 | x :: rs,h => by
  have h0:=h 0 (by simp)
  simp only [List.getElem?_cons_zero,Option.getD_some] at h0
  rw [vl,h0,vl_zeros B rs (fun j hj => by have:=h (j + 1) (by simpa using hj); simpa using this)]
  simp
/-- what holds ahead of a round of the product -/
structure MulRow (xs ys rs : List Nat) (k : Nat) : Prop where
 len : rs.length = xs.length + ys.length
 mem : ∀ x ∈ rs,x < 18446744073709551616
 val : vl 18446744073709551616 rs = vl 18446744073709551616 xs * vl 18446744073709551616 (ys.take k)
 zero : ∀ j,k + xs.length ≤ j→rs[j]?.getD 0 = 0
theorem MulRow.start (xs ys : List Nat) : MulRow xs ys (List.replicate (xs.length + ys.length) 0) 0 :=
 ⟨by simp,by intro x hx; rw [List.mem_replicate] at hx; omega,by simp [vl_replicate,vl],by
  intro j _
  rcases Nat.lt_or_ge j (xs.length + ys.length) with h | h
  ·rw [List.getElem?_replicate,if_pos h]; rfl
  ·rw [List.getElem?_replicate,if_neg (by omega)]; rfl⟩
theorem MulRow.step {xs ys rs : List Nat} {k : Nat} (h : MulRow xs ys rs k) (hk : k < ys.length) (ws : List Nat) (c : Nat) (hc : c < 18446744073709551616) (hl : ws.length = xs.length) (hm : ∀ x ∈ ws,x < 18446744073709551616)
  (hv : vl 18446744073709551616 ws + c * 18446744073709551616 ^ xs.length = vl 18446744073709551616 ((rs.drop k).take xs.length) + ys[k]?.getD 0 * vl 18446744073709551616 xs) :
  MulRow xs ys ((rs.take k ++ ws ++ rs.drop (k + xs.length)).set (k + xs.length) c) (k + 1):=by
 have hlen:=h.len
 have hn : k + xs.length ≤ rs.length:=by omega
 have lt : (rs.take k).length = k:=by rw [List.length_take]; omega
 have lw : (rs.take k ++ ws).length = k + xs.length:=by rw [List.length_append,lt,hl]
 have ll : (rs.take k ++ ws ++ rs.drop (k + xs.length)).length = xs.length + ys.length:=by rw [List.length_append,lw,List.length_drop]; omega
 have hz : vl 18446744073709551616 (rs.drop (k + xs.length)) = 0:=vl_zeros _ _ (fun j hj => by rw [List.getElem?_drop]; exact h.zero _ (by omega))
 have hd0 : (rs.take k ++ ws ++ rs.drop (k + xs.length))[k + xs.length]?.getD 0 = 0:=by
  rw [List.getElem?_append_right (by omega),lw,List.getElem?_drop]; exact h.zero _ (by omega)
 refine ⟨by rw [List.length_set,ll],mem_set ?_ _ _ hc,?_,fun j hj => ?_⟩
 ·intro x hx
  simp only [List.mem_append] at hx
  rcases hx with (hx | hx) | hx
  ·exact h.mem x (List.mem_of_mem_take hx)
  ·exact hm x hx
  ·exact h.mem x (List.mem_of_mem_drop hx)
 ·have h1:=vl_set 18446744073709551616 (rs.take k ++ ws ++ rs.drop (k + xs.length)) (k + xs.length) c (by omega)
  rw [hd0,Nat.zero_mul,Nat.add_zero] at h1
  rw [h1,vl_append,hz,Nat.mul_zero,Nat.add_zero,vl_append,lt,vl_take_succ 18446744073709551616 ys k hk,Nat.mul_add,← h.val]
  have h2:=congrArg (vl 18446744073709551616) (take_drop_three rs k xs.length hn)
  rw [vl_append,hz,Nat.mul_zero,Nat.add_zero,vl_append,lt] at h2
  rw [h2,Nat.pow_add]
  generalize vl 18446744073709551616 ((rs.drop k).take xs.length) = a at *
  generalize vl 18446744073709551616 ws = b at *
  generalize vl 18446744073709551616 (rs.take k) = d at *
  generalize ys[k]?.getD 0 = y at *
  generalize vl 18446744073709551616 xs = X at *
  generalize 18446744073709551616 ^ xs.length = Q at *
  generalize 18446744073709551616 ^ k = P at *
  have h3 : P * (b + c * Q) = P * (a + y * X):=by rw [hv]
  grind
 ·rw [List.getElem?_set_ne (by omega),List.getElem?_append_right (by omega),lw,List.getElem?_drop,show k + xs.length + (j - (k + xs.length)) = j from by omega]
  exact h.zero j (by omega)
theorem MulRow.fin {xs ys rs : List Nat} (h : MulRow xs ys rs ys.length) : vl 18446744073709551616 rs = vl 18446744073709551616 xs * vl 18446744073709551616 ys:=by rw [h.val,List.take_length]

theorem run_make64p (wx : World) (n m : Nat) (h : n + m < 2147483648) : (Instr.makeSlice 70 (.int .i64 ((n : Int) + (m : Int))) (.int .i64 ((n : Int) + (m : Int)))).run Tryz.prog wx = .ok (.slice (some ⟨wx.heap.size,0,none⟩) (n + m) (n + m)) (wx.alloc (.cells (madeCells #[.int .u64 0] (n + m)) 33)):=by
 have:=run_make64 wx (n + m) h
 rw [Int.natCast_add] at this
 exact this

set_option maxHeartbeats 2000000 in
set_option maxRecDepth 100000 in
theorem mulWords_any (va vb : Value) (xs ys : List Nat) (w : World) (ha : Sl .u64 w va xs) (hb : Sl .u64 w vb ys) (mx : ∀ x ∈ xs,x < 18446744073709551616) (my : ∀ x ∈ ys,x < 18446744073709551616) (h0 : 0 < xs.length) (h0' : 0 < ys.length) (hl : xs.length < 536870912) (hl' : ys.length < 536870912) :
  Calls Tryz.prog 62 #[va,vb] w fun e w' => ∃ v',e = .returned v'∧Sl .u64 w' v' (wd 18446744073709551616 (vl 18446744073709551616 xs * vl 18446744073709551616 ys))∧But [] w w'∧Fresh w.heap.size v':=by
 obtain ⟨b1,o1,c1,rfl,hc1⟩ : ∃ b o c,va = .slice (some ⟨b,o,none⟩) xs.length c∧xs.length ≤ c:=by
  rcases ha.open with ⟨rfl,-⟩ | ⟨-,b,o,c,e,h,-⟩
  ·simp at h0
  ·exact ⟨b,o,c,e,h⟩
 rcases hb.open with ⟨rfl,-⟩ | ⟨-,b2,o2,c2,rfl,hc2,hb2,hcell⟩
 ·simp at h0'
 have hmk:=fun wx => run_make64p wx xs.length ys.length (by omega)
 have hof : Off w.heap.size (.slice (some ⟨b1,o1,none⟩) xs.length c1):=off_fresh ha h0 _ (Nat.le_refl _)
 have HC:=hide hcell
 have HO:=hide hof
 have HA:=hide ha
 have MX:=hide mx
 have MY:=hide my
 clear hcell hof ha hb mx my
 go_enter Tryz.func62,Tryz.ntmps62
 go_wp2
 go_loopw [16] (fun i wr => ∃ (k : Nat) (rs : List Nat),k ≤ ys.length∧i = .int .i64 k∧Hid (MulRow xs ys rs k∧But [] w wr∧Seg wr w.heap.size 0 rs∧w.heap.size < wr.heap.size)) (fun i _ => ys.length - (intOf i).toNat)
 case atStart => exact ⟨0,List.replicate (xs.length + ys.length) 0,Nat.zero_le _,rfl,MulRow.start xs ys,(But.refl _ _).alloc _,Seg.made _ _ _,by simp⟩
 case round =>
  obtain ⟨k,rs,hk,rfl,HI⟩:=hrel
  rename World => wr
  by_cases hlt : k < ys.length
  ·have cy:=(unhide HI).2.1.cell_some (unhide HC k hlt) (by simp)
   have hyB : ys[k]?.getD 0 < 18446744073709551616:=mem_getD (unhide MY) (by omega) k
   have hlen:=(unhide HI).1.len
   have hsub:=(unhide HI).2.2.1.sub k xs.length (by omega)
   have hsl : ((rs.drop k).take xs.length).length = xs.length:=by rw [List.length_take,List.length_drop]; omega
   have hat:=addTimes_any w.heap.size (0 + k) (xs.length + ys.length - k) ((rs.drop k).take xs.length) xs (.slice (some ⟨b1,o1,none⟩) xs.length c1) (ys[k]?.getD 0) wr hsub (by rw [hsl]; omega) ((unhide HA).but_nil (unhide HI).2.1) (fun _ => unhide HO) (fun x hx => (unhide HI).1.mem x (List.mem_of_mem_drop (List.mem_of_mem_take hx))) (unhide MX) hyB hsl (by rw [hsl]; omega)
   rw [hsl,Nat.zero_add] at hat
   have HAT:=hide hat
   have HLEN:=hide hlen
   have ST:=hide (fun ws c h1 h2 h3 h4 => (unhide HI).1.step hlt ws c h1 h2 h3 h4)
   clear hsub hsl hat hlen
   generalize ys[k]?.getD 0 = y at *
   go_wp2_with fail
   refine (unhide HAT).mono ?_
   rintro e w1 ⟨c,ws,rfl,hc,hlw,hmw,hvw,hsg,hpt⟩
   have hM:=unhide ST ws c hc hlw hmw hvw
   have hW:=(unhide HI).2.2.1.whole hpt hsg hlw (by rw [unhide HLEN]; omega)
   have hlen1 : k + xs.length < (rs.take k ++ ws ++ rs.drop (k + xs.length)).length:=by have:=hM.len; rw [List.length_set] at this; omega
   have hset:=hW.set (k + xs.length) hlen1 c
   rw [Nat.zero_add] at hset
   obtain ⟨cc,fc⟩:=hW (k + xs.length) hlen1
   rw [Nat.zero_add] at cc fc
   have HB1 : Hid (But [] w w1):=(unhide HI).2.1.trans hpt.but (fun x hx => by simp at hx; subst hx; exact .inr (Nat.le_refl _))
   have HSET:=hide hset
   have HM1:=hide hM
   have hsz : Hid (w.heap.size < w1.heap.size):=Nat.lt_of_lt_of_le (unhide HI).2.2.2 hpt.but.size
   clear hM hW hlen1 hset hpt hsg hvw HAT ST
   generalize (rs.take k ++ ws ++ rs.drop (k + xs.length))[k + xs.length]?.getD 0 = z at cc
   go_wp2
   refine ⟨⟨k + 1,(rs.take k ++ ws ++ rs.drop (k + xs.length)).set (k + xs.length) c,by omega,by go_num,unhide HM1,(unhide HB1).setCell (.inr (Nat.le_refl _)) _,unhide HSET,by rw [World.size_setCell]; exact unhide hsz⟩,?_⟩
   simp [intOf]; omega
  ·have hke : k = ys.length:=by omega
   subst hke
   have hO:=(unhide HI).1
   have hS:=(unhide HI).2.2.1.sl (xs.length + ys.length) (by rw [hO.len]; exact Nat.le_refl _)
   rw [hO.len] at hS
   have HS:=hide hS
   have HM:=hide hO.mem
   have HL : rs.length < 2147483648:=by rw [hO.len]; omega
   have HF:=hide hO.fin
   clear hO hS HC
   go_wp2_with fail
   refine (trimmed_any _ rs _ (unhide HS) (unhide HM) HL).mono ?_
   rintro e w' ⟨v',rfl,hs,hw,hsb⟩
   obtain rfl:=hw.symm
   clear hw
   rw [unhide HF] at hs
   have H1:=hide hs
   have H2:=hide hsb
   clear hs hsb
   go_wp2
   go_ret
   exact ⟨v',rfl,unhide H1,(unhide HI).2.1,fresh_of (unhide H2) (Nat.le_refl _)⟩
end Go.Proofs.YtndcigdphgojpaaGreatDoor
