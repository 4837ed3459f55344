/- Lines of a treaty, one by one, as the Go text of package treaty reckons with them. -/
import Derived.Laws.Bits64b
import Derived.Lib.ItoaNum
import Derived.Deep.RegionHeld
import Derived.Laws.OwnMore
import Derived.Shelf.Strings.Cut
import Derived.Test.YtjbboicccddhbaaGreatDoorProg
import Derived.Shelf.Strings.Trim
import Derived.Shelf.Strconv.Atoi
import Derived.Shelf.Strconv.Itoa3
import Derived.Deep.QuietTactic
import Derived.BigQuiet
import Derived.Outline
import Derived.Shelf.Spec.BitsCarry
import Derived.Test.YtjbboicccddhbaaGreatDoorKPF13
namespace Go.Proofs.YtjbboicccddhbaaGreatDoor
open Go.RowKit

/-- the parts of a line -/
def lineV (kd : Int) (s : Bool) (x y : Int) (p : Option Addr) (fr li ti pr : Int) (to : ByteArray) : Value:=.agg #[.int .i64 kd,.bool s,.int .u64 x,.int .u64 y,.pointer p,.int .i64 fr,.int .i64 li,.int .i64 ti,.int .i64 pr,.string to]
set_option maxHeartbeats 4000000 in
theorem within_any (n m : Int) (w : World) :
  Calls Tryz.prog 123 #[.int .i64 n,.int .i64 m] w fun e w' => e = .returned (.bool (decide (0 ≤ n∧n ≤ m)))∧w' = w:=by
 by_cases h1 : 0 ≤ n
 ·by_cases h2 : n ≤ m
  ·rw [decide_eq_true ⟨h1,h2⟩]
   go_enter Tryz.func123,Tryz.ntmps123
   go_wp2
   exact bodyPost_ret (v:=.bool true) (by simp [results,Tryz.results123,go_sem]) rfl ⟨rfl,rfl⟩
  ·rw [decide_eq_false (fun h => h2 h.2)]
   go_enter Tryz.func123,Tryz.ntmps123
   go_wp2
   exact bodyPost_ret (v:=.bool false) (by simp [results,Tryz.results123,go_sem]) rfl ⟨rfl,rfl⟩
 ·rw [decide_eq_false (fun h => h1 h.1)]
  go_enter Tryz.func123,Tryz.ntmps123
  go_wp2
  exact bodyPost_ret (v:=.bool false) (by simp [results,Tryz.results123,go_sem]) rfl ⟨rfl,rfl⟩
/-- what is above, at most so much -/
def abI (fr li n : Int) : Int:=min (max (n - fr) 0) li
set_option maxHeartbeats 4000000 in
theorem above_any (kd : Int) (s : Bool) (x y : Int) (p : Option Addr) (fr li ti pr : Int) (to : ByteArray) (n : Int) (w : World) (h1 : -1000000000000000 ≤ n∧n ≤ 1000000000000000) (h2 : 0 ≤ fr∧fr ≤ 1000000000000) :
  Calls Tryz.prog 72 #[lineV kd s x y p fr li ti pr to,.int .i64 n] w fun e w' => e = .returned (.int .i64 (abI fr li n))∧But [] w w':=by
 unfold lineV abI
 obtain ⟨d,hd⟩ : ∃ d,n - fr = d:=⟨_,rfl⟩
 have hb : -9223372036854775808 ≤ n - fr∧n - fr < 9223372036854775808:=by omega
 go_enter Tryz.func72,Tryz.ntmps72
 go_wp2
 all_goals exact bodyPost_ret (v:=.int .i64 (min (max d 0) li)) (by simp [results,Tryz.results72,go_sem] <;> (try split) <;> omega) rfl ⟨by first | rfl | rw [hd],(But.refl _ _).alloc _⟩
end Go.Proofs.YtjbboicccddhbaaGreatDoor

namespace Go.Proofs.YtjbboicccddhbaaGreatDoor
open Go.RowKit

/-- a fraction's text -/
def fracTxt (s : Bool) (p q : Nat) : ByteArray:=(if s then ⟨#[45]⟩ ++ ⟨(Lib.decDigits p).toArray⟩ else ⟨(Lib.decDigits p).toArray⟩) ++ (if q = 1 then ⟨#[]⟩ else ⟨#[47]⟩ ++ ⟨(Lib.decDigits q).toArray⟩)
theorem ba_nil (t : ByteArray) : t ++ ⟨#[]⟩ = t:=by
 cases t; simp [ByteArray.ext_iff]

end Go.Proofs.YtjbboicccddhbaaGreatDoor

namespace Go.Proofs.YtjbboicccddhbaaGreatDoor
open Go.RowKit

theorem rat_ex (s : Bool) (p q : Nat) (hq : 0 < q) (hc : Nat.Coprime p q) : ∃ f : Rat,f.num = sgn s p∧f.den = q :=
 ⟨⟨sgn s p,q,by omega,by rw [sgn_abs]; exact hc⟩,rfl,rfl⟩
theorem gcd_cop (x y : Nat) (hy : 0 < y) : Nat.Coprime (x / Nat.gcd x y) (y / Nat.gcd x y):=Nat.coprime_div_gcd_div_gcd (Nat.gcd_pos_of_pos_right _ hy)

theorem len_of {f : Rat} {m n : Nat} (h1 : f.num.natAbs < 18446744073709551616 ^ m) (h2 : f.den < 18446744073709551616 ^ n) (k : Nat) (hm : m ≤ k) (hn : n ≤ k) : Len f k :=
 ⟨Nat.le_trans (wd_length_le (by omega) _ _ h1) hm,Nat.le_trans (wd_length_le (by omega) _ _ h2) hn⟩
theorem Len.mono {f : Rat} {m n : Nat} (h : Len f m) (hn : m ≤ n) : Len f n:=⟨Nat.le_trans h.1 hn,Nat.le_trans h.2 hn⟩
theorem Len.lt {f : Rat} {m : Nat} (h : Len f m) : f.num.natAbs < 18446744073709551616 ^ m∧f.den < 18446744073709551616 ^ m:=⟨lt_of_wd_length (by omega) _ _ h.1,lt_of_wd_length (by omega) _ _ h.2⟩
theorem len_mul {f g : Rat} {m n : Nat} (h1 : Len f m) (h2 : Len g n) (k : Nat) (hk : m + n ≤ k) : Len (f * g) k:=by
 obtain ⟨a1,a2⟩:=h1.lt
 obtain ⟨c1,c2⟩:=h2.lt
 obtain ⟨e1,e2⟩:=mul_low f g _ _ rfl rfl
 refine len_of (m:=m + n) (n:=m + n) ?_ ?_ k hk hk
 ·rw [e1,sgn_abs,Nat.pow_add]
  exact Nat.mul_lt_mul'' (Nat.lt_of_le_of_lt (Nat.div_le_self _ _) a1) (Nat.lt_of_le_of_lt (Nat.div_le_self _ _) c1)
 ·rw [e2,Nat.pow_add]
  exact Nat.mul_lt_mul'' (Nat.lt_of_le_of_lt (Nat.div_le_self _ _) a2) (Nat.lt_of_le_of_lt (Nat.div_le_self _ _) c2)
theorem len_add {f g : Rat} {m n : Nat} (h1 : Len f m) (h2 : Len g n) (k : Nat) (hk : m + n + 1 ≤ k) : Len (f + g) k:=by
 obtain ⟨a1,a2⟩:=h1.lt
 obtain ⟨c1,c2⟩:=h2.lt
 obtain ⟨M,s,hM⟩ : ∃ (M : Nat) (s : Bool),f.num * (g.den / Nat.gcd f.den g.den : Nat) + g.num * (f.den / Nat.gcd f.den g.den : Nat) = sgn s M:=by
  generalize f.num * (g.den / Nat.gcd f.den g.den : Nat) + g.num * (f.den / Nat.gcd f.den g.den : Nat) = z
  by_cases hz : z < 0
  ·exact ⟨z.natAbs,true,by simp [sgn]; omega⟩
  ·exact ⟨z.natAbs,false,by simp [sgn]; omega⟩
 obtain ⟨e1,e2⟩:=add_low f g s M _ _ rfl rfl hM
 have hMl : M < 18446744073709551616 ^ (m + n + 1):=by
  have h3 : M ≤ f.num.natAbs * (g.den / Nat.gcd f.den g.den) + g.num.natAbs * (f.den / Nat.gcd f.den g.den):=by
   rw [← sgn_abs s M,← hM]
   refine Nat.le_trans (Int.natAbs_add_le _ _) ?_
   rw [Int.natAbs_mul,Int.natAbs_mul,Int.natAbs_natCast,Int.natAbs_natCast]
   exact Nat.le_refl _
  have h4 : f.num.natAbs * (g.den / Nat.gcd f.den g.den) < 18446744073709551616 ^ m * 18446744073709551616 ^ n:=Nat.mul_lt_mul'' a1 (Nat.lt_of_le_of_lt (Nat.div_le_self _ _) c2)
  have h5 : g.num.natAbs * (f.den / Nat.gcd f.den g.den) < 18446744073709551616 ^ n * 18446744073709551616 ^ m:=Nat.mul_lt_mul'' c1 (Nat.lt_of_le_of_lt (Nat.div_le_self _ _) a2)
  rw [Nat.mul_comm (18446744073709551616 ^ n)] at h5
  rw [Nat.pow_succ,Nat.pow_add]
  generalize 18446744073709551616 ^ m * 18446744073709551616 ^ n = P at *
  omega
 refine len_of (m:=m + n + 1) (n:=m + n) ?_ ?_ k hk (by omega)
 ·rw [e1,sgn_abs]; exact Nat.lt_of_le_of_lt (Nat.div_le_self _ _) hMl
 ·rw [e2,Nat.pow_add]
  exact Nat.mul_lt_mul'' (Nat.lt_of_le_of_lt (Nat.div_le_self _ _) a2) (Nat.lt_of_le_of_lt (Nat.div_le_self _ _) c2)
theorem len_neg {f : Rat} {m : Nat} (h : Len f m) : Len (-f) m:=by
 unfold Len
 rw [Rat.neg_num,Rat.neg_den,Int.natAbs_neg]
 exact h
theorem len_sub {f g : Rat} {m n : Nat} (h1 : Len f m) (h2 : Len g n) (k : Nat) (hk : m + n + 1 ≤ k) : Len (f - g) k:=by
 rw [Rat.sub_eq_add_neg]; exact len_add h1 (len_neg h2) k hk
theorem len_inv {f : Rat} {m : Nat} (h : Len f m) (h0 : f.num ≠ 0) : Len f⁻¹ m:=by
 obtain ⟨i1,i2,-⟩:=inv_facts f h0
 unfold Len
 rw [i1,i2]
 exact ⟨h.2,h.1⟩
theorem of_rel (x y : Int) (p q k : Nat) (hx : x.natAbs = p * k) (hy : y.natAbs = q * k) : sgn (decide (x < 0) != decide (y < 0)) p * y = x * q:=by
 have ex : x = sgn (decide (x < 0)) (p * k):=by
  by_cases h : x < 0
  ·simp [sgn,h]; omega
  ·simp [sgn,h]; omega
 have ey : y = sgn (decide (y < 0)) (q * k):=by
  by_cases h : y < 0
  ·simp [sgn,h]; omega
  ·simp [sgn,h]; omega
 generalize decide (x < 0) = a at *
 generalize decide (y < 0) = b at *
 rw [ex,ey]
 cases a <;> cases b <;> simp [sgn,Int.natCast_mul] <;> grind
theorem fracOf_at (x y : Int) (hx1 : -9223372036854775808 ≤ x) (hx2 : x < 9223372036854775808) (hy1 : -9223372036854775808 ≤ y) (hy2 : y < 9223372036854775808) (hy0 : y ≠ 0) :
  ∃ (f : Rat) (r : Bool) (p q : Int),Len f 1∧f.num * y = x * f.den∧(∀ W,FracAt W (.agg #[.bool r,.int .u64 p,.int .u64 q,.pointer none]) f)∧∀ W,Calls Tryz.prog 24 #[.int .i64 x,.int .i64 y] W fun e w' => e = .returned (.tuple #[.agg #[.bool r,.int .u64 p,.int .u64 q,.pointer none],.nilIface])∧But [] W w':=by
 have hyp : 0 < y.natAbs:=by omega
 have hg : 0 < Nat.gcd x.natAbs y.natAbs:=Nat.gcd_pos_of_pos_right _ hyp
 have hd1:=Nat.div_mul_cancel (Nat.gcd_dvd_left x.natAbs y.natAbs)
 have hd2:=Nat.div_mul_cancel (Nat.gcd_dvd_right x.natAbs y.natAbs)
 have hq0 : 0 < y.natAbs / Nat.gcd x.natAbs y.natAbs:=Nat.div_pos (Nat.le_of_dvd hyp (Nat.gcd_dvd_right _ _)) hg
 have hpB : x.natAbs / Nat.gcd x.natAbs y.natAbs < 18446744073709551616:=Nat.lt_of_le_of_lt (Nat.div_le_self _ _) (by omega)
 have hqB : y.natAbs / Nat.gcd x.natAbs y.natAbs < 18446744073709551616:=Nat.lt_of_le_of_lt (Nat.div_le_self _ _) (by omega)
 obtain ⟨f,hn,hd⟩:=rat_ex (decide (x < 0) != decide (y < 0)) _ _ hq0 (gcd_cop x.natAbs y.natAbs hyp)
 have habs : f.num.natAbs = x.natAbs / Nat.gcd x.natAbs y.natAbs:=by rw [hn,sgn_abs]
 refine ⟨f,decide (f.num < 0),(f.num.natAbs : Int),(f.den : Int) - 1,?_,?_,fun W => .inl ⟨by rw [habs]; exact hpB,by rw [hd]; exact hqB,rfl⟩,fun W => ?_⟩
 ·exact len_of (m:=1) (n:=1) (by rw [habs,Nat.pow_one]; exact hpB) (by rw [hd,Nat.pow_one]; exact hqB) 1 (Nat.le_refl _) (Nat.le_refl _)
 ·rw [hn,hd]
  exact of_rel x y _ _ _ hd1.symm hd2.symm
 ·rw [habs,hd]
  exact fracOf_any x y hx1 hx2 hy1 hy2 hy0 W _ _ _ (by show _ = _; rw [hn,sgn_neg]) rfl rfl

set_option maxHeartbeats 8000000 in
set_option maxRecDepth 100000 in
theorem plainF_any (x y : Int) (hx1 : -9223372036854775808 ≤ x) (hx2 : x < 9223372036854775808) (hy1 : -9223372036854775808 ≤ y) (hy2 : y < 9223372036854775808) :
  ∃ (f : Rat) (r : Bool) (p q : Int),Len f 1∧f.num * (if y = 0 then 1 else y) = x * f.den∧(∀ W,FracAt W (.agg #[.bool r,.int .u64 p,.int .u64 q,.pointer none]) f)∧∀ W,Calls Tryz.prog 9 #[.agg #[.int .i64 x,.int .i64 y]] W fun e w' => e = .returned (.agg #[.bool r,.int .u64 p,.int .u64 q,.pointer none])∧But [] W w':=by
 by_cases hy0 : y = 0
 ·subst hy0
  obtain ⟨f,r,p,q,h1,h2,h3,h4⟩:=fracOf_at x 1 hx1 hx2 (by omega) (by omega) (by omega)
  refine ⟨f,r,p,q,h1,by rw [if_pos rfl]; exact h2,h3,fun w => ?_⟩
  have OF:=hide h4
  clear h1 h2 h3 h4
  go_enter Tryz.func9,Tryz.ntmps9
  go_wp2_with fail
  obtain ⟨W,hW⟩ : ∃ W,W = (w.alloc (.cells #[.int .i64 x,.int .i64 1] 23)).alloc (.cells #[.bool false,.int .u64 0,.int .u64 0,.pointer none] 27):=⟨_,rfl⟩
  have r0 : W.cell? ⟨w.heap.size + 1,0,none⟩ = some (.bool false):=by rw [hW]; simp
  have r1 : W.cell? ⟨w.heap.size + 1,1,none⟩ = some (.int .u64 0):=by rw [hW]; simp
  have r2 : W.cell? ⟨w.heap.size + 1,2,none⟩ = some (.int .u64 0):=by rw [hW]; simp
  have r3 : W.cell? ⟨w.heap.size + 1,3,none⟩ = some (.pointer none):=by rw [hW]; simp
  have fz : ∀ j,W.frozen? ⟨w.heap.size + 1,j,none⟩ = false:=fun j => by rw [hW]; simp
  have hB : But [] w W:=by rw [hW]; exact ((But.refl _ _).alloc _).alloc _
  rw [← hW]
  clear hW
  obtain ⟨gr,hgr⟩ : ∃ gr,gr = w.heap.size + 1:=⟨_,rfl⟩
  rw [← hgr] at r0 r1 r2 r3 fz
  rw [← hgr]
  have HGR : Hid (w.heap.size ≤ gr):=by show _ ≤ _; omega
  clear hgr
  have grl : gr < W.heap.size:=lt_of_cell r0
  refine (unhide OF _).mono ?_
  rintro e w1 ⟨rfl,hb1⟩
  have u0:=hb1.cell_some r0 (by simp)
  have u1:=hb1.cell_some r1 (by simp)
  have u2:=hb1.cell_some r2 (by simp)
  have u3:=hb1.cell_some r3 (by simp)
  have uf : ∀ j,w1.frozen? ⟨gr,j,none⟩ = false:=fun j => (hb1.frozen (p:=⟨gr,j,none⟩) grl (by simp)).trans (fz j)
  have HB1 : Hid (But [] w w1):=hB.trans' hb1
  have gl1 : gr < w1.heap.size:=lt_of_cell u0
  clear hb1 hB r0 r1 r2 r3 fz grl
  go_wp2
  have hBf:=(((((unhide HB1).setCell (p:=⟨gr,0,none⟩) (.inr (unhide HGR)) (.bool r)).setCell (p:=⟨gr,1,none⟩) (.inr (unhide HGR)) (.int .u64 p)).setCell (p:=⟨gr,2,none⟩) (.inr (unhide HGR)) (.int .u64 q)).setCell (p:=⟨gr,3,none⟩) (.inr (unhide HGR)) (.pointer none)).alloc (.cells #[.bool r,.int .u64 p,.int .u64 q,.pointer none] 27)
  exact bodyPost_ret (v:=.agg #[.bool r,.int .u64 p,.int .u64 q,.pointer none]) (by simp [results,Tryz.results9,go_sem,u0,u1,u2,u3,gl1]) rfl ⟨rfl,hBf⟩
 ·obtain ⟨f,r,p,q,h1,h2,h3,h4⟩:=fracOf_at x y hx1 hx2 hy1 hy2 hy0
  refine ⟨f,r,p,q,h1,by rw [if_neg hy0]; exact h2,h3,fun w => ?_⟩
  have n0 : (y == 0) = false:=by simp [hy0]
  have OF:=hide h4
  clear h1 h2 h3 h4
  go_enter Tryz.func9,Tryz.ntmps9
  go_wp2_with fail
  obtain ⟨W,hW⟩ : ∃ W,W = (w.alloc (.cells #[.int .i64 x,.int .i64 y] 23)).alloc (.cells #[.bool false,.int .u64 0,.int .u64 0,.pointer none] 27):=⟨_,rfl⟩
  have r0 : W.cell? ⟨w.heap.size + 1,0,none⟩ = some (.bool false):=by rw [hW]; simp
  have r1 : W.cell? ⟨w.heap.size + 1,1,none⟩ = some (.int .u64 0):=by rw [hW]; simp
  have r2 : W.cell? ⟨w.heap.size + 1,2,none⟩ = some (.int .u64 0):=by rw [hW]; simp
  have r3 : W.cell? ⟨w.heap.size + 1,3,none⟩ = some (.pointer none):=by rw [hW]; simp
  have fz : ∀ j,W.frozen? ⟨w.heap.size + 1,j,none⟩ = false:=fun j => by rw [hW]; simp
  have hB : But [] w W:=by rw [hW]; exact ((But.refl _ _).alloc _).alloc _
  rw [← hW]
  clear hW
  obtain ⟨gr,hgr⟩ : ∃ gr,gr = w.heap.size + 1:=⟨_,rfl⟩
  rw [← hgr] at r0 r1 r2 r3 fz
  rw [← hgr]
  have HGR : Hid (w.heap.size ≤ gr):=by show _ ≤ _; omega
  clear hgr
  have grl : gr < W.heap.size:=lt_of_cell r0
  refine (unhide OF _).mono ?_
  rintro e w1 ⟨rfl,hb1⟩
  have u0:=hb1.cell_some r0 (by simp)
  have u1:=hb1.cell_some r1 (by simp)
  have u2:=hb1.cell_some r2 (by simp)
  have u3:=hb1.cell_some r3 (by simp)
  have uf : ∀ j,w1.frozen? ⟨gr,j,none⟩ = false:=fun j => (hb1.frozen (p:=⟨gr,j,none⟩) grl (by simp)).trans (fz j)
  have HB1 : Hid (But [] w w1):=hB.trans' hb1
  have gl1 : gr < w1.heap.size:=lt_of_cell u0
  clear hb1 hB r0 r1 r2 r3 fz grl
  go_wp2
  have hBf:=(((((unhide HB1).setCell (p:=⟨gr,0,none⟩) (.inr (unhide HGR)) (.bool r)).setCell (p:=⟨gr,1,none⟩) (.inr (unhide HGR)) (.int .u64 p)).setCell (p:=⟨gr,2,none⟩) (.inr (unhide HGR)) (.int .u64 q)).setCell (p:=⟨gr,3,none⟩) (.inr (unhide HGR)) (.pointer none)).alloc (.cells #[.bool r,.int .u64 p,.int .u64 q,.pointer none] 27)
  exact bodyPost_ret (v:=.agg #[.bool r,.int .u64 p,.int .u64 q,.pointer none]) (by simp [results,Tryz.results9,go_sem,u0,u1,u2,u3,gl1]) rfl ⟨rfl,hBf⟩
end Go.Proofs.YtjbboicccddhbaaGreatDoor

namespace Go.Proofs.YtjbboicccddhbaaGreatDoor
open Go.RowKit

theorem int_parts (n : Int) : ((n : Int) : Rat).num = n∧((n : Int) : Rat).den = 1:=⟨by simp,by simp⟩
theorem len_int (n : Int) (h : n.natAbs < 18446744073709551616) : Len ((n : Int) : Rat) 1:=by
 obtain ⟨h1,h2⟩:=int_parts n
 exact len_of (m:=1) (n:=1) (by rw [h1,Nat.pow_one]; exact h) (by rw [h2]; decide) 1 (Nat.le_refl _) (Nat.le_refl _)
theorem whole_is (x : Int) (h1 : -9223372036854775808 ≤ x) (h2 : x < 9223372036854775808) :
  ∃ (r : Bool) (p : Int),(∀ W,FracAt W (.agg #[.bool r,.int .u64 p,.int .u64 0,.pointer none]) ((x : Int) : Rat))∧∀ W,Calls Tryz.prog 16 #[.int .i64 x] W fun e w' => e = .returned (.agg #[.bool r,.int .u64 p,.int .u64 0,.pointer none])∧But [] W w':=by
 obtain ⟨e1,e2⟩:=int_parts x
 refine ⟨decide (x < 0),((x.natAbs : Nat) : Int),fun W => .inl ⟨by rw [e1]; omega,by rw [e2]; decide,by rw [e1,e2]; rfl⟩,fun W => ?_⟩
 have h:=whole_any x h1 h2 W
 rw [show (((1 : Nat) : Int) - 1) = 0 from rfl] at h
 exact h
end Go.Proofs.YtjbboicccddhbaaGreatDoor

namespace Go.Proofs.YtjbboicccddhbaaGreatDoor
open Go.RowKit

theorem den_timesX (x : Rat) : x * ((x.den : Int) : Rat) = ((x.num : Int) : Rat):=by
 obtain ⟨i1,i2⟩:=int_parts (x.den : Int)
 obtain ⟨j1,j2⟩:=int_parts x.num
 have h:=cross_mul x ((x.den : Int) : Rat)
 rw [i1,i2,Nat.mul_one] at h
 have hd:=den_pos x
 obtain ⟨e1,e2⟩:=rat_of_coprime x.num 1 (by omega) (by simp) (x * ((x.den : Int) : Rat)) (by
  refine Int.eq_of_mul_eq_mul_right (show (x.den : Int) ≠ 0 by omega) ?_
  grind)
 exact Rat.ext (by rw [e1,j1]) (by rw [e2,j2])
theorem ofP (f : Rat) (x y : Int) (_hy : y ≠ 0) (h : f.num * y = x * f.den) : f * ((y : Int) : Rat) = ((x : Int) : Rat):=by
 have h2 : ((f.num * y : Int) : Rat) = ((x * (f.den : Int) : Int) : Rat):=by rw [h]
 rw [Rat.intCast_mul,Rat.intCast_mul] at h2
 have hd : ((f.den : Int) : Rat) ≠ 0:=fun e => by
  have:=Rat.intCast_eq_zero_iff.1 e
  have:=f.den_pos
  omega
 have hf : f * ((f.den : Int) : Rat) = ((f.num : Int) : Rat):=den_timesX f
 rw [← hf] at h2
 have h3 : ((f.den : Int) : Rat) * (f * ((y : Int) : Rat)) = ((f.den : Int) : Rat) * ((x : Int) : Rat):=by grind
 have:=congrArg (fun t => ((f.den : Int) : Rat)⁻¹ * t) h3
 simp only [← Rat.mul_assoc,Rat.inv_mul_cancel _ hd,Rat.one_mul] at this
 exact this
set_option maxHeartbeats 4000000 in
set_option maxRecDepth 100000 in
theorem divided_at (x y : Int) (hx1 : -9223372036854775808 ≤ x) (hx2 : x < 9223372036854775808) (hy1 : -9223372036854775808 ≤ y) (hy2 : y < 9223372036854775808) (hy0 : y ≠ 0) :
  ∃ (f : Rat) (r : Bool) (p q : Int),Len f 1∧f * ((y : Int) : Rat) = ((x : Int) : Rat)∧(∀ W,FracAt W (.agg #[.bool r,.int .u64 p,.int .u64 q,.pointer none]) f)∧∀ W,Calls Tryz.prog 125 #[.int .i64 x,.int .i64 y] W fun e w' => e = .returned (.agg #[.bool r,.int .u64 p,.int .u64 q,.pointer none])∧But [] W w':=by
 obtain ⟨f,r,p,q,l,e,F,C⟩:=fracOf_at x y hx1 hx2 hy1 hy2 hy0
 refine ⟨f,r,p,q,l,ofP f x y hy0 e,F,fun W => ?_⟩
 have HC:=hide C
 clear C F e l
 go_enter Tryz.func125,Tryz.ntmps125
 go_wp2_with fail
 refine (unhide HC _).mono ?_
 rintro e w1 ⟨rfl,hb1⟩
 have B1:=hide (((But.refl [] W).alloc (.cells #[.bool false,.int .u64 0,.int .u64 0,.pointer none] 27)).trans' hb1)
 have c0 : w1.cell? ⟨W.heap.size,0,none⟩ = some (.bool false):=hb1.cell_some (by simp) (by simp)
 have c1 : w1.cell? ⟨W.heap.size,1,none⟩ = some (.int .u64 0):=hb1.cell_some (by simp) (by simp)
 have c2 : w1.cell? ⟨W.heap.size,2,none⟩ = some (.int .u64 0):=hb1.cell_some (by simp) (by simp)
 have c3 : w1.cell? ⟨W.heap.size,3,none⟩ = some (.pointer none):=hb1.cell_some (by simp) (by simp)
 have fz : ∀ j,w1.frozen? ⟨W.heap.size,j,none⟩ = false:=fun j => (hb1.frozen (p:=⟨W.heap.size,j,none⟩) (by simp) (by simp)).trans (by simp)
 have lg : W.heap.size < w1.heap.size:=lt_of_cell c0
 have hge : W.heap.size ≤ W.heap.size:=Nat.le_refl _
 generalize hgg : W.heap.size = g at c0 c1 c2 c3 fz lg hge ⊢
 have HG:=hide hgg
 clear hb1 HC hgg hge
 go_wp2
 have hS : But [g] w1 ((((w1.setCell ⟨g,0,none⟩ (.bool r)).setCell ⟨g,1,none⟩ (.int .u64 p)).setCell ⟨g,2,none⟩ (.int .u64 q)).setCell ⟨g,3,none⟩ (.pointer none)):=(((((But.refl [g] w1).setCell (.inl (by simp)) _).setCell (.inl (by simp)) _).setCell (.inl (by simp)) _).setCell (.inl (by simp)) _)
 have hF:=((unhide B1).trans hS (fun x hx => by simp at hx; subst hx; exact .inr (Nat.le_of_eq (unhide HG)))).alloc (.cells #[.bool r,.int .u64 p,.int .u64 q,.pointer none] 27)
 exact bodyPost_ret (v:=.agg #[.bool r,.int .u64 p,.int .u64 q,.pointer none]) (by simp [results,Tryz.results125,go_sem,c0,c1,c2,c3,lg]) rfl ⟨rfl,hF⟩
end Go.Proofs.YtjbboicccddhbaaGreatDoor

namespace Go.Proofs.YtjbboicccddhbaaGreatDoor
open Go.RowKit

theorem den_times (x : Rat) : x * ((x.den : Int) : Rat) = ((x.num : Int) : Rat):=by
 obtain ⟨i1,i2⟩:=int_parts (x.den : Int)
 obtain ⟨j1,j2⟩:=int_parts x.num
 have h:=cross_mul x ((x.den : Int) : Rat)
 rw [i1,i2,Nat.mul_one] at h
 have hd:=den_pos x
 obtain ⟨e1,e2⟩:=rat_of_coprime x.num 1 (by omega) (by simp) (x * ((x.den : Int) : Rat)) (by
  refine Int.eq_of_mul_eq_mul_right (show (x.den : Int) ≠ 0 by omega) ?_
  grind)
 exact Rat.ext (by rw [e1,j1]) (by rw [e2,j2])
theorem int_ne (z : Int) (h : z ≠ 0) : ((z : Int) : Rat) ≠ 0:=fun e => h (by
 have:=congrArg Rat.num e
 rwa [(int_parts z).1] at this)
/-- the fraction of a pair: a lower number of 0 counts as 1 -/
def qf (q : Int × Int) : Rat:=((q.1 : Int) : Rat) / (((if q.2 = 0 then 1 else q.2) : Int) : Rat)
theorem qf_of (f : Rat) (q : Int × Int) (h : f.num * (if q.2 = 0 then 1 else q.2) = q.1 * f.den) : f = qf q:=by
 unfold qf
 have hy : (if q.2 = 0 then (1 : Int) else q.2) ≠ 0:=by split <;> omega
 generalize (if q.2 = 0 then (1 : Int) else q.2) = y at *
 have h1:=den_times f
 have h2 : ((f.num * y : Int) : Rat) = ((q.1 * (f.den : Int) : Int) : Rat):=by rw [h]
 rw [Rat.intCast_mul,Rat.intCast_mul] at h2
 have hd:=int_ne (f.den : Int) (by have:=den_pos f; omega)
 have hy':=int_ne y hy
 generalize ((y : Int) : Rat) = Y at *
 generalize ((f.den : Int) : Rat) = D at *
 generalize ((f.num : Int) : Rat) = M at *
 generalize ((q.1 : Int) : Rat) = X at *
 rw [← h1] at h2
 grind
/-- numbers that an int can be -/
def Fits (q : Int × Int) : Prop:=-9223372036854775808 ≤ q.1∧q.1 < 9223372036854775808∧-9223372036854775808 ≤ q.2∧q.2 < 9223372036854775808
theorem plainF_at (q : Int × Int) (h : Fits q) : ∃ (r : Bool) (x y : Int),Len (qf q) 1∧(∀ W,FracAt W (.agg #[.bool r,.int .u64 x,.int .u64 y,.pointer none]) (qf q))∧∀ W,Calls Tryz.prog 9 #[.agg #[.int .i64 q.1,.int .i64 q.2]] W fun e w' => e = .returned (.agg #[.bool r,.int .u64 x,.int .u64 y,.pointer none])∧But [] W w':=by
 obtain ⟨f,r,x,y,h1,h2,h3,h4⟩:=plainF_any q.1 q.2 h.1 h.2.1 h.2.2.1 h.2.2.2
 have e:=qf_of f q h2
 subst e
 exact ⟨r,x,y,h1,h3,h4⟩

end Go.Proofs.YtjbboicccddhbaaGreatDoor

namespace Go.Proofs.YtjbboicccddhbaaGreatDoor
open Go.RowKit
set_option linter.unusedVariables false

theorem ownsRow_form {w : World} {base : Nat} {e : TypeId} {size : Nat} {v : Value} {n : Nat} {xs : List Value} (h : w.ownsRow base e size v n xs) : ∃ a c,v = .slice a n c:=by
 rcases h.2 with ⟨rfl,h0⟩ | ⟨g,cap,cur,rfl,-⟩
 ·exact ⟨none,0,by rw [h0]⟩
 ·exact ⟨_,_,rfl⟩
theorem but_of_grown {w0 w w' : World} {base : Nat} {e : TypeId} {size : Nat} {v : Value} {n : Nat} {xs : List Value} (h : But [] w0 w) (ho : w.ownsRow base e size v n xs) (hb : w0.heap.size ≤ base) (hg : w.grownBy w' v.ownBlock) : But [] w0 w' :=
 ⟨hg.os.trans h.os,hg.tape.trans h.tape,hg.output.trans h.output,Nat.le_trans h.size hg.size,fun k hk _ => by
  rw [hg.block k (Nat.lt_of_lt_of_le hk h.size) (fun e => by have:=(ho.lt k e.symm).1; omega)]
  exact h.block k hk (by simp)⟩
theorem ownsRow_but {w w' : World} {base : Nat} {e : TypeId} {size : Nat} {v : Value} {n : Nat} {xs : List Value} (h : w.ownsRow base e size v n xs) (hb : But [] w w') : w'.ownsRow base e size v n xs :=
 h.kept (row:=none) ⟨hb.os,hb.tape,hb.output,hb.size,fun k hk _ => hb.block k hk (by simp)⟩ (by
  by_cases h0 : v.ownBlock = none
  ·exact .inl h0
  ·exact .inr h0)
end Go.Proofs.YtjbboicccddhbaaGreatDoor

namespace Go.Proofs
open Go.Shelf Go.RowKit
def Tryz.lays145_ren : Go.Shelf.Ren := ⟨fun | 145 => 131 | 217 => 215 | 219 => 197 | 220 => 170 | 224 => 217 | 225 => 216 | 266 => 228 | 267 => 218 | 314 => 229 | n => n, fun | 3 => 3 | 4 => 4 | 5 => 5 | 9 => 9 | 46 => 100 | 51 => 198 | 59 => 187 | 146 => 199 | n => n, fun | 1 => 5 | n => n⟩
theorem Tryz.lays145 : Go.Proofs.Lays.n145 Tryz.prog Tryz.lays145_ren := {
  mixed := by kernel_rfl
  f145 := Tryz.func131.trans (congrArg some (by kernel_rfl))
  f217 := Tryz.func215.trans (congrArg some (by kernel_rfl))
  f219 := Tryz.func197.trans (congrArg some (by kernel_rfl))
  f220 := Tryz.func170.trans (congrArg some (by kernel_rfl))
  f224 := Tryz.func217.trans (congrArg some (by kernel_rfl))
  f225 := Tryz.func216.trans (congrArg some (by kernel_rfl))
  f266 := Tryz.func228.trans (congrArg some (by kernel_rfl))
  f267 := Tryz.func218.trans (congrArg some (by kernel_rfl))
  f314 := Tryz.func229.trans (congrArg some (by kernel_rfl))
  t3 := Tryz.underlying3
  a3 := Tryz.isAgg3
  z3 := Tryz.sizeOf3
  v3 := Tryz.zeroValue3
  t4 := Tryz.underlying4
  a4 := Tryz.isAgg4
  z4 := Tryz.sizeOf4
  v4 := Tryz.zeroValue4
  t5 := Tryz.underlying5
  a5 := Tryz.isAgg5
  z5 := Tryz.sizeOf5
  v5 := Tryz.zeroValue5
  t9 := Tryz.underlying9
  a9 := Tryz.isAgg9
  z9 := Tryz.sizeOf9
  v9 := Tryz.zeroValue9
  t46 := Tryz.underlying100
  a46 := Tryz.isAgg100
  z46 := Tryz.sizeOf100
  v46 := Tryz.zeroValue100
  t51 := Tryz.underlying198
  a51 := Tryz.isAgg198
  z51 := Tryz.sizeOf198
  v51 := Tryz.zeroValue198
  t59 := Tryz.underlying187
  a59 := Tryz.isAgg187
  z59 := Tryz.sizeOf187
  v59 := Tryz.zeroValue187
  t146 := Tryz.underlying199
  a146 := Tryz.isAgg199
  z146 := Tryz.sizeOf199
  v146 := Tryz.zeroValue199
  g1 := by kernel_rfl }
/-- the text behind the first sign of that kind -/
theorem index_behind (d : UInt8) : ∀ (pre post : List UInt8),d ∉ pre→Lib.index (pre ++ d :: post) [d] = (pre.length : Int)
 | [],post,_ => by simp [Lib.index,List.isPrefixOf]
 | b :: l,post,h => by
  have hb : ¬ d = b:=fun e => h (by simp [e])
  have ih:=index_behind d l post (fun e => h (by simp [e]))
  rw [List.cons_append,Lib.index,ih]
  have h1 : ([d].isPrefixOf (b :: (l ++ d :: post))) = false:=by simp [List.isPrefixOf,hb]
  rw [h1]
  have h2 : (((l.length : Nat) : Int) == -1) = false:=by rw [beq_eq_false_iff_ne]; omega
  simp [h2]
theorem index_none (d : UInt8) : ∀ (l : List UInt8),d ∉ l→Lib.index l [d] = -1
 | [],_ => by simp [Lib.index]
 | b :: l,h => by
  have hb : ¬ d = b:=fun e => h (by simp [e])
  have ih:=index_none d l (fun e => h (by simp [e]))
  rw [Lib.index,ih]
  have h1 : ([d].isPrefixOf (b :: l)) = false:=by simp [List.isPrefixOf,hb]
  rw [h1]
  simp
theorem cut_none (d : UInt8) (l : List UInt8) (h : d ∉ l) : Lib.cut l [d] = (l,[],false):=by
 unfold Lib.cut
 rw [index_none d l h]
 simp
theorem cut_behind (d : UInt8) (pre post : List UInt8) (h : d ∉ pre) : Lib.cut (pre ++ d :: post) [d] = (pre,post,true):=by
 unfold Lib.cut
 rw [index_behind d pre post h,if_pos (by omega),Int.toNat_natCast]
 simp
theorem Tryz.strings_Cut (t : ByteArray) (d : UInt8) (pre post : List UInt8) (m : Int) (w : World) (ht : t.data.toList = pre ++ d :: post) (hd : d ∉ pre) (hs : t.size < 4294967281) (hm : w.cell? ⟨5,0,none⟩ = some (.int .i64 m)) :
  Calls Tryz.prog 131 #[.string t,.string ⟨#[d]⟩] w fun e w' => e = .returned (.tuple #[.string ⟨pre.toArray⟩,.string ⟨post.toArray⟩,.bool true])∧∃ n,w' = w.drewN n:=by
 have h:=Any.strings_Cut Tryz.lays145 t ⟨#[d]⟩ m w hs hm
 rw [ht,show (⟨#[d]⟩ : ByteArray).data.toList = [d] from rfl,cut_behind d pre post hd] at h
 exact h
end Go.Proofs

namespace Go.Proofs
open Go.Shelf Go.RowKit
set_option linter.unusedVariables false
def Tryz.lays161_ren : Go.Shelf.Ren := ⟨fun | 119 => 231 | 137 => 230 | 151 => 200 | 152 => 220 | 161 => 133 | 197 => 199 | 217 => 215 | 224 => 217 | 225 => 216 | 227 => 172 | 228 => 198 | 231 => 171 | 233 => 173 | 235 => 174 | 260 => 219 | 266 => 228 | n => n, fun | 0 => 0 | 3 => 3 | 4 => 4 | 5 => 5 | 9 => 9 | 21 => 21 | 46 => 100 | 105 => 250 | 116 => 219 | 117 => 220 | 119 => 281 | 124 => 223 | 138 => 283 | 139 => 284 | n => n, fun | 3 => 6 | 4 => 7 | n => n⟩
theorem Tryz.lays161 : Go.Proofs.Lays.n161 Tryz.prog Tryz.lays161_ren := {
  mixed := by kernel_rfl
  f119 := Tryz.func231.trans (congrArg some (by kernel_rfl))
  f137 := Tryz.func230.trans (congrArg some (by kernel_rfl))
  f151 := Tryz.func200.trans (congrArg some (by kernel_rfl))
  f152 := Tryz.func220.trans (congrArg some (by kernel_rfl))
  f161 := Tryz.func133.trans (congrArg some (by kernel_rfl))
  f197 := Tryz.func199.trans (congrArg some (by kernel_rfl))
  f217 := Tryz.func215.trans (congrArg some (by kernel_rfl))
  f224 := Tryz.func217.trans (congrArg some (by kernel_rfl))
  f225 := Tryz.func216.trans (congrArg some (by kernel_rfl))
  f227 := Tryz.func172.trans (congrArg some (by kernel_rfl))
  f228 := Tryz.func198.trans (congrArg some (by kernel_rfl))
  f231 := Tryz.func171.trans (congrArg some (by kernel_rfl))
  f233 := Tryz.func173.trans (congrArg some (by kernel_rfl))
  f235 := Tryz.func174.trans (congrArg some (by kernel_rfl))
  f260 := Tryz.func219.trans (congrArg some (by kernel_rfl))
  f266 := Tryz.func228.trans (congrArg some (by kernel_rfl))
  t0 := Tryz.underlying0
  a0 := Tryz.isAgg0
  z0 := Tryz.sizeOf0
  v0 := Tryz.zeroValue0
  t3 := Tryz.underlying3
  a3 := Tryz.isAgg3
  z3 := Tryz.sizeOf3
  v3 := Tryz.zeroValue3
  t4 := Tryz.underlying4
  a4 := Tryz.isAgg4
  z4 := Tryz.sizeOf4
  v4 := Tryz.zeroValue4
  t5 := Tryz.underlying5
  a5 := Tryz.isAgg5
  z5 := Tryz.sizeOf5
  v5 := Tryz.zeroValue5
  t9 := Tryz.underlying9
  a9 := Tryz.isAgg9
  z9 := Tryz.sizeOf9
  v9 := Tryz.zeroValue9
  t21 := Tryz.underlying21
  a21 := Tryz.isAgg21
  z21 := Tryz.sizeOf21
  v21 := Tryz.zeroValue21
  t46 := Tryz.underlying100
  a46 := Tryz.isAgg100
  z46 := Tryz.sizeOf100
  v46 := Tryz.zeroValue100
  t105 := Tryz.underlying250
  a105 := Tryz.isAgg250
  z105 := Tryz.sizeOf250
  v105 := Tryz.zeroValue250
  t116 := Tryz.underlying219
  a116 := Tryz.isAgg219
  z116 := Tryz.sizeOf219
  t117 := Tryz.underlying220
  a117 := Tryz.isAgg220
  z117 := Tryz.sizeOf220
  v117 := Tryz.zeroValue220
  t119 := Tryz.underlying281
  a119 := Tryz.isAgg281
  z119 := Tryz.sizeOf281
  t124 := Tryz.underlying223
  a124 := Tryz.isAgg223
  z124 := Tryz.sizeOf223
  v124 := Tryz.zeroValue223
  t138 := Tryz.underlying283
  a138 := Tryz.isAgg283
  z138 := Tryz.sizeOf283
  v138 := Tryz.zeroValue283
  t139 := Tryz.underlying284
  a139 := Tryz.isAgg284
  z139 := Tryz.sizeOf284
  v139 := Tryz.zeroValue284
  g3 := by kernel_rfl
  g4 := by kernel_rfl }
def Tryz.lays172_ren : Go.Shelf.Ren := ⟨fun | 129 => 147 | 171 => 87 | 172 => 184 | 205 => 233 | 243 => 136 | 244 => 205 | 245 => 206 | 246 => 182 | 247 => 221 | 279 => 222 | 280 => 223 | 281 => 224 | 282 => 225 | 283 => 185 | 284 => 186 | 285 => 187 | 286 => 188 | 287 => 232 | 316 => 201 | 317 => 207 | 318 => 208 | 319 => 209 | 320 => 210 | 321 => 234 | 322 => 235 | 337 => 226 | 338 => 227 | n => n, fun | 0 => 0 | 2 => 2 | 3 => 3 | 4 => 4 | 5 => 5 | 9 => 9 | 20 => 20 | 21 => 21 | 37 => 123 | 46 => 100 | 51 => 198 | 53 => 24 | 80 => 33 | 75 => 30 | 76 => 126 | 85 => 275 | 127 => 185 | 143 => 293 | 145 => 295 | 167 => 274 | 168 => 277 | 171 => 240 | 173 => 242 | 175 => 286 | 210 => 289 | 212 => 268 | 213 => 269 | 232 => 290 | 233 => 291 | n => n, fun | 15 => 8 | 16 => 9 | 17 => 4 | 18 => 10 | 19 => 11 | n => n⟩
theorem Tryz.lays172 : Go.Proofs.Lays.n172 Tryz.prog Tryz.lays172_ren := {
  mixed := by kernel_rfl
  f129 := Tryz.func147.trans (congrArg some (by kernel_rfl))
  f171 := Tryz.func87.trans (congrArg some (by kernel_rfl))
  f172 := Tryz.func184.trans (congrArg some (by kernel_rfl))
  f205 := Tryz.func233.trans (congrArg some (by kernel_rfl))
  f243 := Tryz.func136.trans (congrArg some (by kernel_rfl))
  f244 := Tryz.func205.trans (congrArg some (by kernel_rfl))
  f245 := Tryz.func206.trans (congrArg some (by kernel_rfl))
  f246 := Tryz.func182.trans (congrArg some (by kernel_rfl))
  f247 := Tryz.func221.trans (congrArg some (by kernel_rfl))
  f279 := Tryz.func222.trans (congrArg some (by kernel_rfl))
  f280 := Tryz.func223.trans (congrArg some (by kernel_rfl))
  f281 := Tryz.func224.trans (congrArg some (by kernel_rfl))
  f282 := Tryz.func225.trans (congrArg some (by kernel_rfl))
  f283 := Tryz.func185.trans (congrArg some (by kernel_rfl))
  f284 := Tryz.func186.trans (congrArg some (by kernel_rfl))
  f285 := Tryz.func187.trans (congrArg some (by kernel_rfl))
  f286 := Tryz.func188.trans (congrArg some (by kernel_rfl))
  f287 := Tryz.func232.trans (congrArg some (by kernel_rfl))
  f316 := Tryz.func201.trans (congrArg some (by kernel_rfl))
  f317 := Tryz.func207.trans (congrArg some (by kernel_rfl))
  f318 := Tryz.func208.trans (congrArg some (by kernel_rfl))
  f319 := Tryz.func209.trans (congrArg some (by kernel_rfl))
  f320 := Tryz.func210.trans (congrArg some (by kernel_rfl))
  f321 := Tryz.func234.trans (congrArg some (by kernel_rfl))
  f322 := Tryz.func235.trans (congrArg some (by kernel_rfl))
  f337 := Tryz.func226.trans (congrArg some (by kernel_rfl))
  f338 := Tryz.func227.trans (congrArg some (by kernel_rfl))
  t0 := Tryz.underlying0
  a0 := Tryz.isAgg0
  z0 := Tryz.sizeOf0
  v0 := Tryz.zeroValue0
  t2 := Tryz.underlying2
  a2 := Tryz.isAgg2
  z2 := Tryz.sizeOf2
  v2 := Tryz.zeroValue2
  t3 := Tryz.underlying3
  a3 := Tryz.isAgg3
  z3 := Tryz.sizeOf3
  v3 := Tryz.zeroValue3
  t4 := Tryz.underlying4
  a4 := Tryz.isAgg4
  z4 := Tryz.sizeOf4
  v4 := Tryz.zeroValue4
  t5 := Tryz.underlying5
  a5 := Tryz.isAgg5
  z5 := Tryz.sizeOf5
  v5 := Tryz.zeroValue5
  t9 := Tryz.underlying9
  a9 := Tryz.isAgg9
  z9 := Tryz.sizeOf9
  v9 := Tryz.zeroValue9
  t20 := Tryz.underlying20
  a20 := Tryz.isAgg20
  z20 := Tryz.sizeOf20
  v20 := Tryz.zeroValue20
  t21 := Tryz.underlying21
  a21 := Tryz.isAgg21
  z21 := Tryz.sizeOf21
  v21 := Tryz.zeroValue21
  t37 := Tryz.underlying123
  a37 := Tryz.isAgg123
  z37 := Tryz.sizeOf123
  v37 := Tryz.zeroValue123
  t46 := Tryz.underlying100
  a46 := Tryz.isAgg100
  z46 := Tryz.sizeOf100
  v46 := Tryz.zeroValue100
  t51 := Tryz.underlying198
  a51 := Tryz.isAgg198
  z51 := Tryz.sizeOf198
  v51 := Tryz.zeroValue198
  t53 := Tryz.underlying24
  a53 := Tryz.isAgg24
  z53 := Tryz.sizeOf24
  v53 := Tryz.zeroValue24
  t75 := Tryz.underlying30
  a75 := Tryz.isAgg30
  z75 := Tryz.sizeOf30
  v75 := Tryz.zeroValue30
  t76 := Tryz.underlying126
  a76 := Tryz.isAgg126
  z76 := Tryz.sizeOf126
  v76 := Tryz.zeroValue126
  t85 := Tryz.underlying275
  a85 := Tryz.isAgg275
  z85 := Tryz.sizeOf275
  v85 := Tryz.zeroValue275
  t127 := Tryz.underlying185
  a127 := Tryz.isAgg185
  z127 := Tryz.sizeOf185
  v127 := Tryz.zeroValue185
  t143 := Tryz.underlying293
  a143 := Tryz.isAgg293
  z143 := Tryz.sizeOf293
  v143 := Tryz.zeroValue293
  t145 := Tryz.underlying295
  a145 := Tryz.isAgg295
  z145 := Tryz.sizeOf295
  v145 := Tryz.zeroValue295
  t167 := Tryz.underlying274
  a167 := Tryz.isAgg274
  z167 := Tryz.sizeOf274
  v167 := Tryz.zeroValue274
  t168 := Tryz.underlying277
  a168 := Tryz.isAgg277
  z168 := Tryz.sizeOf277
  v168 := Tryz.zeroValue277
  t171 := Tryz.underlying240
  a171 := Tryz.isAgg240
  z171 := Tryz.sizeOf240
  v171 := Tryz.zeroValue240
  t173 := Tryz.underlying242
  a173 := Tryz.isAgg242
  z173 := Tryz.sizeOf242
  v173 := Tryz.zeroValue242
  t175 := Tryz.underlying286
  a175 := Tryz.isAgg286
  z175 := Tryz.sizeOf286
  v175 := Tryz.zeroValue286
  t210 := Tryz.underlying289
  a210 := Tryz.isAgg289
  z210 := Tryz.sizeOf289
  v210 := Tryz.zeroValue289
  t212 := Tryz.underlying268
  a212 := Tryz.isAgg268
  z212 := Tryz.sizeOf268
  v212 := Tryz.zeroValue268
  t213 := Tryz.underlying269
  a213 := Tryz.isAgg269
  z213 := Tryz.sizeOf269
  t232 := Tryz.underlying290
  a232 := Tryz.isAgg290
  z232 := Tryz.sizeOf290
  v232 := Tryz.zeroValue290
  t233 := Tryz.underlying291
  a233 := Tryz.isAgg291
  z233 := Tryz.sizeOf291
  v233 := Tryz.zeroValue291
  g15 := by kernel_rfl
  g16 := by kernel_rfl
  g17 := by kernel_rfl
  g18 := by kernel_rfl
  g19 := by kernel_rfl }
def Tryz.laysM171_ren : Go.Shelf.Ren := ⟨fun | 129 => 147 | 171 => 87 | 243 => 136 | 246 => 182 | 283 => 185 | 284 => 186 | 285 => 187 | 286 => 188 | 317 => 207 | 318 => 208 | 319 => 209 | 320 => 210 | 337 => 226 | 338 => 227 | n => n, fun | 0 => 0 | 2 => 2 | 3 => 3 | 4 => 4 | 5 => 5 | 9 => 9 | 20 => 20 | 37 => 123 | 46 => 100 | 51 => 198 | 53 => 24 | 171 => 240 | 173 => 242 | 212 => 268 | 213 => 269 | 232 => 290 | 233 => 291 | n => n, fun | 17 => 4 | 18 => 10 | 19 => 11 | n => n⟩
theorem Tryz.laysM171 : Go.Proofs.LaysM.n171 Tryz.prog Tryz.laysM171_ren := {
  mixed := by kernel_rfl
  f129 := Tryz.func147.trans (congrArg some (by kernel_rfl))
  f171 := Tryz.func87.trans (congrArg some (by kernel_rfl))
  f243 := Tryz.func136.trans (congrArg some (by kernel_rfl))
  f246 := Tryz.func182.trans (congrArg some (by kernel_rfl))
  f283 := Tryz.func185.trans (congrArg some (by kernel_rfl))
  f284 := Tryz.func186.trans (congrArg some (by kernel_rfl))
  f285 := Tryz.func187.trans (congrArg some (by kernel_rfl))
  f286 := Tryz.func188.trans (congrArg some (by kernel_rfl))
  f317 := Tryz.func207.trans (congrArg some (by kernel_rfl))
  f318 := Tryz.func208.trans (congrArg some (by kernel_rfl))
  f319 := Tryz.func209.trans (congrArg some (by kernel_rfl))
  f320 := Tryz.func210.trans (congrArg some (by kernel_rfl))
  f337 := Tryz.func226.trans (congrArg some (by kernel_rfl))
  f338 := Tryz.func227.trans (congrArg some (by kernel_rfl))
  t0 := Tryz.underlying0
  a0 := Tryz.isAgg0
  z0 := Tryz.sizeOf0
  v0 := Tryz.zeroValue0
  t2 := Tryz.underlying2
  a2 := Tryz.isAgg2
  z2 := Tryz.sizeOf2
  v2 := Tryz.zeroValue2
  t3 := Tryz.underlying3
  a3 := Tryz.isAgg3
  z3 := Tryz.sizeOf3
  v3 := Tryz.zeroValue3
  t4 := Tryz.underlying4
  a4 := Tryz.isAgg4
  z4 := Tryz.sizeOf4
  v4 := Tryz.zeroValue4
  t5 := Tryz.underlying5
  a5 := Tryz.isAgg5
  z5 := Tryz.sizeOf5
  v5 := Tryz.zeroValue5
  t9 := Tryz.underlying9
  a9 := Tryz.isAgg9
  z9 := Tryz.sizeOf9
  v9 := Tryz.zeroValue9
  t20 := Tryz.underlying20
  a20 := Tryz.isAgg20
  z20 := Tryz.sizeOf20
  v20 := Tryz.zeroValue20
  t37 := Tryz.underlying123
  a37 := Tryz.isAgg123
  z37 := Tryz.sizeOf123
  v37 := Tryz.zeroValue123
  t46 := Tryz.underlying100
  a46 := Tryz.isAgg100
  z46 := Tryz.sizeOf100
  v46 := Tryz.zeroValue100
  t51 := Tryz.underlying198
  a51 := Tryz.isAgg198
  z51 := Tryz.sizeOf198
  v51 := Tryz.zeroValue198
  t53 := Tryz.underlying24
  a53 := Tryz.isAgg24
  z53 := Tryz.sizeOf24
  v53 := Tryz.zeroValue24
  t171 := Tryz.underlying240
  a171 := Tryz.isAgg240
  z171 := Tryz.sizeOf240
  v171 := Tryz.zeroValue240
  t173 := Tryz.underlying242
  a173 := Tryz.isAgg242
  z173 := Tryz.sizeOf242
  v173 := Tryz.zeroValue242
  t212 := Tryz.underlying268
  a212 := Tryz.isAgg268
  z212 := Tryz.sizeOf268
  v212 := Tryz.zeroValue268
  t213 := Tryz.underlying269
  a213 := Tryz.isAgg269
  z213 := Tryz.sizeOf269
  t232 := Tryz.underlying290
  a232 := Tryz.isAgg290
  z232 := Tryz.sizeOf290
  v232 := Tryz.zeroValue290
  t233 := Tryz.underlying291
  a233 := Tryz.isAgg291
  z233 := Tryz.sizeOf291
  v233 := Tryz.zeroValue291
  g17 := by kernel_rfl
  m17 := by kernel_rfl
  g18 := by kernel_rfl
  m18 := by kernel_rfl
  g19 := by kernel_rfl
  m19 := by kernel_rfl
  i0 := by kernel_rfl
  i2 := by kernel_rfl
  i3 := by kernel_rfl
  i4 := by kernel_rfl
  i5 := by kernel_rfl
  i9 := by kernel_rfl
  i20 := by kernel_rfl
  i37 := by kernel_rfl
  i46 := by kernel_rfl
  i51 := by kernel_rfl
  i53 := by kernel_rfl
  i171 := by kernel_rfl
  i173 := by kernel_rfl
  i212 := by kernel_rfl
  i232 := by kernel_rfl
  i233 := by kernel_rfl }
end Go.Proofs

namespace Go.Proofs.YtjbboicccddhbaaGreatDoor
open Go.RowKit
set_option linter.unusedVariables false

/-- a place that holds one value -/
def Box1 (w : World) (b : Nat) (T : TypeId) (v : Value) : Prop:=w.heap[b]? = some (.cells #[v] T (0,0))
theorem Box1.new (w : World) (T : TypeId) (v : Value) : Box1 (w.alloc (.cells #[v] T)) w.heap.size T v:=World.alloc_heap_new w _
theorem Box1.lt {w : World} {b : Nat} {T : TypeId} {v : Value} (h : Box1 w b T v) : b < w.heap.size:=(Array.getElem?_eq_some_iff.1 h).1
theorem Box1.beside {w w' : World} {b : Nat} {T : TypeId} {v : Value} {l : List Nat} (h : Box1 w b T v) (hb : But l w w') (hn : b ∉ l) : Box1 w' b T v:=(hb.block b h.lt hn).trans h
theorem Box1.but {w w' : World} {b : Nat} {T : TypeId} {v : Value} (h : Box1 w b T v) (hb : But [] w w') : Box1 w' b T v:=h.beside hb (by simp)
theorem Box1.calm {A B : World} {b : Nat} {T : TypeId} {v : Value} (h : Box1 A b T v) (hb : ∀ (k : Nat) (o : Obj),A.heap[k]? = some o→o.isCells = true→B.heap[k]? = some o) : Box1 B b T v:=hb b _ h rfl
theorem Box1.cell {w : World} {b : Nat} {T : TypeId} {v : Value} (h : Box1 w b T v) : w.cell? ⟨b,0,none⟩ = some v:=by
 unfold Box1 at h
 simp [World.cell?,h]
theorem Box1.loose {w : World} {b : Nat} {T : TypeId} {v : Value} (h : Box1 w b T v) (o : Nat) : w.frozen? ⟨b,o,none⟩ = false:=by
 unfold Box1 at h
 simp [World.frozen?,h]
theorem Box1.set {w : World} {b : Nat} {T : TypeId} {v : Value} (h : Box1 w b T v) (u : Value) : Box1 (w.setCell ⟨b,0,none⟩ u) b T u:=by
 unfold Box1 at h ⊢
 simp [World.setCell,Array.getElem?_modify,h]
theorem setCell_but (w : World) (b : Nat) (u : Value) : But [b] w (w.setCell ⟨b,0,none⟩ u):=but_setCells w b [u] 0
end Go.Proofs.YtjbboicccddhbaaGreatDoor
