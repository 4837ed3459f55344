/- A whole number is divided by a word: the quotient lies in a row of its own. -/
import Derived.Test.YtikgmhpbdcdogaaGreatDoorZShelf
namespace Go.Proofs.YtikgmhpbdcdogaaGreatDoor
open Go.RowKit

set_option maxHeartbeats 2000000 in
set_option maxRecDepth 100000 in
theorem byWord_fresh (v : Value) (X d : Nat) (w : World) (hv : Sl .u64 w v (wd 18446744073709551616 X)) (hl : (wd 18446744073709551616 X).length < 1073741824) (hd : 0 < d) (hdB : d < 18446744073709551616) :
  Calls Tryz.prog 92 #[v,.int .u64 (d : Int)] w fun e w' => ∃ v',e = .returned (.tuple #[v',.int .u64 ((X % d : Nat) : Int)])∧Sl .u64 w' v' (wd 18446744073709551616 (X / d))∧But [] w w'∧Fresh w.heap.size v':=by
 have mm:=wd_mem (B:=18446744073709551616) (by omega) X
 have em:=vl_wd (B:=18446744073709551616) (by omega) X
 obtain ⟨a,c,rfl,hc,hcell,-⟩:=hv
 generalize wd 18446744073709551616 X = xs at *
 subst em
 obtain ⟨R,hR⟩ : ∃ R,R = vl 18446744073709551616 xs % d:=⟨_,rfl⟩
 rw [← hR]
 have HR:=hide hR
 have hmk:=fun wx => run_make64 wx xs.length (by omega)
 have HC:=hide hcell
 have MM:=hide mm
 clear hcell mm hR
 go_enter Tryz.func92,Tryz.ntmps92
 go_wp2
 go_loopw [7,8] (fun r i wr => ∃ (k rN : Nat) (rs : List Nat),k ≤ xs.length∧i = .int .i64 ((k : Int) - 1)∧r = .int .u64 rN∧rN < d∧rs.length = xs.length∧Hid (ByInv xs rs d k rN∧But [] w wr∧Seg wr w.heap.size 0 rs)) (fun _ i _ => (intOf i + 1).toNat)
 case atStart => exact ⟨xs.length,0,List.replicate xs.length 0,Nat.le_refl _,rfl,rfl,hd,by simp,ByInv.start xs d hd,(But.refl _ _).alloc _,Seg.made _ _ _⟩
 case round =>
  obtain ⟨k,rN,rs,hk,rfl,rfl,hrN,hrl,HI⟩:=hrel
  rename World => wr
  by_cases hk0 : k = 0
  ·subst hk0
   have hsl:=(unhide HI).2.2.sl xs.length (by omega)
   rw [hrl] at hsl
   have HSL:=hide hsl
   have HF:=hide (unhide HI).1.fin
   have hln : rs.length < 2147483648:=by omega
   clear hsl HC
   go_wp2_with fail
   refine (trimmed_any _ rs _ (unhide HSL) (unhide HI).1.mem hln).mono ?_
   rintro e w1 ⟨v1,rfl,hv1,hw,hsb⟩
   obtain rfl:=hw.symm
   clear hw
   rw [(unhide HF).1] at hv1
   have HV1:=hide hv1
   have HSB:=hide hsb
   clear hsb
   have er : Hid (rN = R):=by show _ = _; rw [unhide HR]; exact (unhide HF).2
   clear hv1
   go_wp2
   go_ret2
   exact ⟨v1,by rw [← unhide er]; rfl,unhide HV1,(unhide HI).2.1,fresh_of (unhide HSB) (Nat.le_refl _)⟩
  ·obtain ⟨i,rfl⟩ : ∃ i,k = i + 1:=⟨k - 1,by omega⟩
   obtain ⟨b,off,rfl,hci⟩:=unhide HC i (by omega)
   have cx:=(unhide HI).2.1.cell_some hci (by simp)
   have hxB : xs[i]?.getD 0 < 18446744073709551616:=mem_getD (unhide MM) (by omega) i
   obtain ⟨cr,fr⟩:=(unhide HI).2.2 i (by omega)
   rw [Nat.zero_add] at cr fr
   obtain ⟨q,hq⟩ : ∃ q,(rN * 18446744073709551616 + xs[i]?.getD 0) / d = q:=⟨_,rfl⟩
   obtain ⟨r',hr'⟩ : ∃ r',(rN * 18446744073709551616 + xs[i]?.getD 0) % d = r':=⟨_,rfl⟩
   obtain ⟨hqB,hst⟩:=(unhide HI).1.step (by omega) hxB q r' hq hr'
   have hr'd : r' < d:=hst.lt
   have ST:=hide hst
   have DV:=hide (div64_any rN (xs[i]?.getD 0) d hdB hxB hrN wr q r' hq hr')
   have hset:=(unhide HI).2.2.set i (by omega) q
   rw [Nat.zero_add] at hset
   have HSET:=hide hset
   clear hset hst hci hq hr'
   generalize xs[i]?.getD 0 = x at *
   generalize rs[i]?.getD 0 = r0 at cr
   rw [show (((i + 1 : Nat) : Int) - 1) = (i : Int) from by omega]
   go_wp2_with fail
   refine (unhide DV).mono ?_
   rintro e w1 ⟨rfl,n,rfl⟩
   go_wp2
   refine ⟨⟨i,r',rs.set i q,by omega,rfl,rfl,hr'd,by rw [List.length_set]; exact hrl,unhide ST,((unhide HI).2.1.drewN n).setCell (.inr (Nat.le_refl _)) _,?_⟩,?_⟩
   ·exact unhide HSET
   ·simp [intOf]
end Go.Proofs.YtikgmhpbdcdogaaGreatDoor

namespace Go.Proofs.YtikgmhpbdcdogaaGreatDoor
open Go.RowKit

/-- the row of bytes does not lie in the block of the words -/
def OffB (vb vx : Value) : Prop:=∀ k,vb.ownBlock = some k→∀ b off n c,vx = .slice (some ⟨b,off,none⟩) n c→b ≠ k
theorem OffB.grow {w w' : World} {vb vb' vx : Value} {xs : List Nat} {o : Obj} (h : OffB vb vx) (hs : Sl .u64 w vx xs) (h0 : 0 < xs.length) (hg : (w.alloc o).grownBy w' vb.ownBlock) (hb : vb'.ownBlock = vb.ownBlock ∨ ∀ k,vb'.ownBlock = some k→(w.alloc o).heap.size ≤ k) : Sl .u64 w' vx xs∧OffB vb' vx:=by
 constructor
 ·have h1:=hs.but_nil ((But.refl [] w).alloc o)
  cases hr : vb.ownBlock with
  | none => rw [hr] at hg; exact h1.but_nil (grown_but_none hg)
  | some g => rw [hr] at hg; exact h1.but (grown_but hg) (fun b off cap n e => by have:=h g hr b off n cap e; simp; omega)
 ·intro k hk b off n c e
  rcases hb with hb | hb
  ·rw [hb] at hk; exact h k hk b off n c e
  ·have h1:=hb k hk
   have h2:=hs.lt h0 b off n c e
   simp at h1
   omega
theorem row_news {w : World} {g : Nat} {es : List UInt8} (h : Row .u8 w g (es.map UInt8.toNat)) : ∀ j u,(es.map u8v)[j]? = some u→w.cell? ((⟨g,0,none⟩ : Addr).add j) = some u:=fun j u hj => by
 rw [List.getElem?_map] at hj
 rcases Nat.lt_or_ge j es.length with hl | hl
 ·rw [List.getElem?_eq_getElem hl] at hj
  simp only [Option.map_some,Option.some.injEq] at hj
  have h1:=(h j (by rw [List.length_map]; exact hl)).1
  rw [List.getElem?_map,List.getElem?_eq_getElem hl] at h1
  have e : (⟨g,0,none⟩ : Addr).add j = ⟨g,j,none⟩:=by by_cases h : j = 0 <;> simp [Addr.add,h]
  rw [e,h1,← hj]
  rfl
 ·rw [List.getElem?_eq_none hl] at hj
  simp at hj
theorem ten19_lt {q : Nat} (h : 1 < (wd 18446744073709551616 q).length) : 10000000000000000000 ≤ q:=by
 rcases Nat.lt_or_ge q 18446744073709551616 with h1 | h1
 ·have:=wd_length_le (B:=18446744073709551616) (by omega) q 1 (by rw [Nat.pow_one]; exact h1)
  omega
 ·omega
end Go.Proofs.YtikgmhpbdcdogaaGreatDoor
