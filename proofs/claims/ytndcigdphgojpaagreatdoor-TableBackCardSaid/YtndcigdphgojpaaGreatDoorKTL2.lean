/- A pair's fraction, as the Go text of package plain makes it; how long sums and products are. -/
import Derived.Test.YtndcigdphgojpaaGreatDoorKTC1
import Derived.Test.YtndcigdphgojpaaGreatDoorKTF13
import Derived.Test.YtndcigdphgojpaaGreatDoorKTFW
namespace Go.Proofs.YtndcigdphgojpaaGreatDoor
open Go.RowKit

theorem rat_ex (s : Bool) (p q : Nat) (hq : 0 < q) (hc : Nat.Coprime p q) : ∃ f : Rat,f.num = sgn s p∧f.den = q :=
 ⟨⟨sgn s p,q,by omega,by rw [sgn_abs]; exact hc⟩,rfl,rfl⟩
theorem gcd_cop (x y : Nat) (hy : 0 < y) : Nat.Coprime (x / Nat.gcd x y) (y / Nat.gcd x y):=Nat.coprime_div_gcd_div_gcd (Nat.gcd_pos_of_pos_right _ hy)

theorem len_of {f : Rat} {m n : Nat} (h1 : f.num.natAbs < 18446744073709551616 ^ m) (h2 : f.den < 18446744073709551616 ^ n) (k : Nat) (hm : m ≤ k) (hn : n ≤ k) : Len f k :=
 ⟨Nat.le_trans (wd_length_le (by omega) _ _ h1) hm,Nat.le_trans (wd_length_le (by omega) _ _ h2) hn⟩
theorem Len.mono {f : Rat} {m n : Nat} (h : Len f m) (hn : m ≤ n) : Len f n:=⟨Nat.le_trans h.1 hn,Nat.le_trans h.2 hn⟩
theorem Len.lt {f : Rat} {m : Nat} (h : Len f m) : f.num.natAbs < 18446744073709551616 ^ m∧f.den < 18446744073709551616 ^ m:=⟨lt_of_wd_length (by omega) _ _ h.1,lt_of_wd_length (by omega) _ _ h.2⟩
theorem len_mul {f g : Rat} {m n : Nat} (h1 : Len f m) (h2 : Len g n) (k : Nat) (hk : m + n ≤ k) : Len (f * g) k:=by
 obtain ⟨a1,a2⟩:=h1.lt
 obtain ⟨c1,c2⟩:=h2.lt
 obtain ⟨e1,e2⟩:=mul_low f g _ _ rfl rfl
 refine len_of (m:=m + n) (n:=m + n) ?_ ?_ k hk hk
 ·rw [e1,sgn_abs,Nat.pow_add]
  exact Nat.mul_lt_mul'' (Nat.lt_of_le_of_lt (Nat.div_le_self _ _) a1) (Nat.lt_of_le_of_lt (Nat.div_le_self _ _) c1)
 ·rw [e2,Nat.pow_add]
  exact Nat.mul_lt_mul'' (Nat.lt_of_le_of_lt (Nat.div_le_self _ _) a2) (Nat.lt_of_le_of_lt (Nat.div_le_self _ _) c2)
theorem len_add {f g : Rat} {m n : Nat} (h1 : Len f m) (h2 : Len g n) (k : Nat) (hk : m + n + 1 ≤ k) : Len (f + g) k:=by
 obtain ⟨a1,a2⟩:=h1.lt
 obtain ⟨c1,c2⟩:=h2.lt
 obtain ⟨M,s,hM⟩ : ∃ (M : Nat) (s : Bool),f.num * (g.den / Nat.gcd f.den g.den : Nat) + g.num * (f.den / Nat.gcd f.den g.den : Nat) = sgn s M:=by
  generalize f.num * (g.den / Nat.gcd f.den g.den : Nat) + g.num * (f.den / Nat.gcd f.den g.den : Nat) = z
  by_cases hz : z < 0
  ·exact ⟨z.natAbs,true,by simp [sgn]; omega⟩
  ·exact ⟨z.natAbs,false,by simp [sgn]; omega⟩
 obtain ⟨e1,e2⟩:=add_low f g s M _ _ rfl rfl hM
 have hMl : M < 18446744073709551616 ^ (m + n + 1):=by
  have h3 : M ≤ f.num.natAbs * (g.den / Nat.gcd f.den g.den) + g.num.natAbs * (f.den / Nat.gcd f.den g.den):=by
   rw [← sgn_abs s M,← hM]
   refine Nat.le_trans (Int.natAbs_add_le _ _) ?_
   rw [Int.natAbs_mul,Int.natAbs_mul,Int.natAbs_natCast,Int.natAbs_natCast]
   exact Nat.le_refl _
  have h4 : f.num.natAbs * (g.den / Nat.gcd f.den g.den) < 18446744073709551616 ^ m * 18446744073709551616 ^ n:=Nat.mul_lt_mul'' a1 (Nat.lt_of_le_of_lt (Nat.div_le_self _ _) c2)
  have h5 : g.num.natAbs * (f.den / Nat.gcd f.den g.den) < 18446744073709551616 ^ n * 18446744073709551616 ^ m:=Nat.mul_lt_mul'' c1 (Nat.lt_of_le_of_lt (Nat.div_le_self _ _) a2)
  rw [Nat.mul_comm (18446744073709551616 ^ n)] at h5
  rw [Nat.pow_succ,Nat.pow_add]
  generalize 18446744073709551616 ^ m * 18446744073709551616 ^ n = P at *
  omega
 refine len_of (m:=m + n + 1) (n:=m + n) ?_ ?_ k hk (by omega)
 ·rw [e1,sgn_abs]; exact Nat.lt_of_le_of_lt (Nat.div_le_self _ _) hMl
 ·rw [e2,Nat.pow_add]
  exact Nat.mul_lt_mul'' (Nat.lt_of_le_of_lt (Nat.div_le_self _ _) a2) (Nat.lt_of_le_of_lt (Nat.div_le_self _ _) c2)
theorem len_neg {f : Rat} {m : Nat} (h : Len f m) : Len (-f) m:=by
 unfold Len
 rw [Rat.neg_num,Rat.neg_den,Int.natAbs_neg]
 exact h
theorem len_sub {f g : Rat} {m n : Nat} (h1 : Len f m) (h2 : Len g n) (k : Nat) (hk : m + n + 1 ≤ k) : Len (f - g) k:=by
 rw [Rat.sub_eq_add_neg]; exact len_add h1 (len_neg h2) k hk
theorem of_rel (x y : Int) (p q k : Nat) (hx : x.natAbs = p * k) (hy : y.natAbs = q * k) : sgn (decide (x < 0) != decide (y < 0)) p * y = x * q:=by
 have ex : x = sgn (decide (x < 0)) (p * k):=by
  by_cases h : x < 0
  ·simp [sgn,h]; omega
  ·simp [sgn,h]; omega
 have ey : y = sgn (decide (y < 0)) (q * k):=by
  by_cases h : y < 0
  ·simp [sgn,h]; omega
  ·simp [sgn,h]; omega
 generalize decide (x < 0) = a at *
 generalize decide (y < 0) = b at *
 rw [ex,ey]
 cases a <;> cases b <;> simp [sgn,Int.natCast_mul] <;> grind
theorem fracOf_at (x y : Int) (hx1 : -9223372036854775808 ≤ x) (hx2 : x < 9223372036854775808) (hy1 : -9223372036854775808 ≤ y) (hy2 : y < 9223372036854775808) (hy0 : y ≠ 0) :
  ∃ (f : Rat) (r : Bool) (p q : Int),Len f 1∧f.num * y = x * f.den∧(∀ W,FracAt W (.agg #[.bool r,.int .u64 p,.int .u64 q,.pointer none]) f)∧∀ W,Calls Tryz.prog 66 #[.int .i64 x,.int .i64 y] W fun e w' => e = .returned (.tuple #[.agg #[.bool r,.int .u64 p,.int .u64 q,.pointer none],.nilIface])∧But [] W w':=by
 have hyp : 0 < y.natAbs:=by omega
 have hg : 0 < Nat.gcd x.natAbs y.natAbs:=Nat.gcd_pos_of_pos_right _ hyp
 have hd1:=Nat.div_mul_cancel (Nat.gcd_dvd_left x.natAbs y.natAbs)
 have hd2:=Nat.div_mul_cancel (Nat.gcd_dvd_right x.natAbs y.natAbs)
 have hq0 : 0 < y.natAbs / Nat.gcd x.natAbs y.natAbs:=Nat.div_pos (Nat.le_of_dvd hyp (Nat.gcd_dvd_right _ _)) hg
 have hpB : x.natAbs / Nat.gcd x.natAbs y.natAbs < 18446744073709551616:=Nat.lt_of_le_of_lt (Nat.div_le_self _ _) (by omega)
 have hqB : y.natAbs / Nat.gcd x.natAbs y.natAbs < 18446744073709551616:=Nat.lt_of_le_of_lt (Nat.div_le_self _ _) (by omega)
 obtain ⟨f,hn,hd⟩:=rat_ex (decide (x < 0) != decide (y < 0)) _ _ hq0 (gcd_cop x.natAbs y.natAbs hyp)
 have habs : f.num.natAbs = x.natAbs / Nat.gcd x.natAbs y.natAbs:=by rw [hn,sgn_abs]
 refine ⟨f,decide (f.num < 0),(f.num.natAbs : Int),(f.den : Int) - 1,?_,?_,fun W => .inl ⟨by rw [habs]; exact hpB,by rw [hd]; exact hqB,rfl⟩,fun W => ?_⟩
 ·exact len_of (m:=1) (n:=1) (by rw [habs,Nat.pow_one]; exact hpB) (by rw [hd,Nat.pow_one]; exact hqB) 1 (Nat.le_refl _) (Nat.le_refl _)
 ·rw [hn,hd]
  exact of_rel x y _ _ _ hd1.symm hd2.symm
 ·rw [habs,hd]
  exact fracOf_any x y hx1 hx2 hy1 hy2 hy0 W _ _ _ (by show _ = _; rw [hn,sgn_neg]) rfl rfl

set_option maxHeartbeats 8000000 in
set_option maxRecDepth 100000 in
theorem plainF_any (x y : Int) (hx1 : -9223372036854775808 ≤ x) (hx2 : x < 9223372036854775808) (hy1 : -9223372036854775808 ≤ y) (hy2 : y < 9223372036854775808) :
  ∃ (f : Rat) (r : Bool) (p q : Int),Len f 1∧f.num * (if y = 0 then 1 else y) = x * f.den∧(∀ W,FracAt W (.agg #[.bool r,.int .u64 p,.int .u64 q,.pointer none]) f)∧∀ W,Calls Tryz.prog 36 #[.agg #[.int .i64 x,.int .i64 y]] W fun e w' => e = .returned (.agg #[.bool r,.int .u64 p,.int .u64 q,.pointer none])∧But [] W w':=by
 by_cases hy0 : y = 0
 ·subst hy0
  obtain ⟨f,r,p,q,h1,h2,h3,h4⟩:=fracOf_at x 1 hx1 hx2 (by omega) (by omega) (by omega)
  refine ⟨f,r,p,q,h1,by rw [if_pos rfl]; exact h2,h3,fun w => ?_⟩
  have OF:=hide h4
  clear h1 h2 h3 h4
  go_enter Tryz.func36,Tryz.ntmps36
  go_wp2_with fail
  obtain ⟨W,hW⟩ : ∃ W,W = (w.alloc (.cells #[.int .i64 x,.int .i64 1] 82)).alloc (.cells #[.bool false,.int .u64 0,.int .u64 0,.pointer none] 36):=⟨_,rfl⟩
  have r0 : W.cell? ⟨w.heap.size + 1,0,none⟩ = some (.bool false):=by rw [hW]; simp
  have r1 : W.cell? ⟨w.heap.size + 1,1,none⟩ = some (.int .u64 0):=by rw [hW]; simp
  have r2 : W.cell? ⟨w.heap.size + 1,2,none⟩ = some (.int .u64 0):=by rw [hW]; simp
  have r3 : W.cell? ⟨w.heap.size + 1,3,none⟩ = some (.pointer none):=by rw [hW]; simp
  have fz : ∀ j,W.frozen? ⟨w.heap.size + 1,j,none⟩ = false:=fun j => by rw [hW]; simp
  have hB : But [] w W:=by rw [hW]; exact ((But.refl _ _).alloc _).alloc _
  rw [← hW]
  clear hW
  obtain ⟨gr,hgr⟩ : ∃ gr,gr = w.heap.size + 1:=⟨_,rfl⟩
  rw [← hgr] at r0 r1 r2 r3 fz
  rw [← hgr]
  have HGR : Hid (w.heap.size ≤ gr):=by show _ ≤ _; omega
  clear hgr
  have grl : gr < W.heap.size:=lt_of_cell r0
  refine (unhide OF _).mono ?_
  rintro e w1 ⟨rfl,hb1⟩
  have u0:=hb1.cell_some r0 (by simp)
  have u1:=hb1.cell_some r1 (by simp)
  have u2:=hb1.cell_some r2 (by simp)
  have u3:=hb1.cell_some r3 (by simp)
  have uf : ∀ j,w1.frozen? ⟨gr,j,none⟩ = false:=fun j => (hb1.frozen (p:=⟨gr,j,none⟩) grl (by simp)).trans (fz j)
  have HB1 : Hid (But [] w w1):=hB.trans' hb1
  have gl1 : gr < w1.heap.size:=lt_of_cell u0
  clear hb1 hB r0 r1 r2 r3 fz grl
  go_wp2
  have hBf:=(((((unhide HB1).setCell (p:=⟨gr,0,none⟩) (.inr (unhide HGR)) (.bool r)).setCell (p:=⟨gr,1,none⟩) (.inr (unhide HGR)) (.int .u64 p)).setCell (p:=⟨gr,2,none⟩) (.inr (unhide HGR)) (.int .u64 q)).setCell (p:=⟨gr,3,none⟩) (.inr (unhide HGR)) (.pointer none)).alloc (.cells #[.bool r,.int .u64 p,.int .u64 q,.pointer none] 36)
  exact bodyPost_ret (v:=.agg #[.bool r,.int .u64 p,.int .u64 q,.pointer none]) (by simp [results,Tryz.results36,go_sem,u0,u1,u2,u3,gl1]) rfl ⟨rfl,hBf⟩
 ·obtain ⟨f,r,p,q,h1,h2,h3,h4⟩:=fracOf_at x y hx1 hx2 hy1 hy2 hy0
  refine ⟨f,r,p,q,h1,by rw [if_neg hy0]; exact h2,h3,fun w => ?_⟩
  have n0 : (y == 0) = false:=by simp [hy0]
  have OF:=hide h4
  clear h1 h2 h3 h4
  go_enter Tryz.func36,Tryz.ntmps36
  go_wp2_with fail
  obtain ⟨W,hW⟩ : ∃ W,W = (w.alloc (.cells #[.int .i64 x,.int .i64 y] 82)).alloc (.cells #[.bool false,.int .u64 0,.int .u64 0,.pointer none] 36):=⟨_,rfl⟩
  have r0 : W.cell? ⟨w.heap.size + 1,0,none⟩ = some (.bool false):=by rw [hW]; simp
  have r1 : W.cell? ⟨w.heap.size + 1,1,none⟩ = some (.int .u64 0):=by rw [hW]; simp
  have r2 : W.cell? ⟨w.heap.size + 1,2,none⟩ = some (.int .u64 0):=by rw [hW]; simp
  have r3 : W.cell? ⟨w.heap.size + 1,3,none⟩ = some (.pointer none):=by rw [hW]; simp
  have fz : ∀ j,W.frozen? ⟨w.heap.size + 1,j,none⟩ = false:=fun j => by rw [hW]; simp
  have hB : But [] w W:=by rw [hW]; exact ((But.refl _ _).alloc _).alloc _
  rw [← hW]
  clear hW
  obtain ⟨gr,hgr⟩ : ∃ gr,gr = w.heap.size + 1:=⟨_,rfl⟩
  rw [← hgr] at r0 r1 r2 r3 fz
  rw [← hgr]
  have HGR : Hid (w.heap.size ≤ gr):=by show _ ≤ _; omega
  clear hgr
  have grl : gr < W.heap.size:=lt_of_cell r0
  refine (unhide OF _).mono ?_
  rintro e w1 ⟨rfl,hb1⟩
  have u0:=hb1.cell_some r0 (by simp)
  have u1:=hb1.cell_some r1 (by simp)
  have u2:=hb1.cell_some r2 (by simp)
  have u3:=hb1.cell_some r3 (by simp)
  have uf : ∀ j,w1.frozen? ⟨gr,j,none⟩ = false:=fun j => (hb1.frozen (p:=⟨gr,j,none⟩) grl (by simp)).trans (fz j)
  have HB1 : Hid (But [] w w1):=hB.trans' hb1
  have gl1 : gr < w1.heap.size:=lt_of_cell u0
  clear hb1 hB r0 r1 r2 r3 fz grl
  go_wp2
  have hBf:=(((((unhide HB1).setCell (p:=⟨gr,0,none⟩) (.inr (unhide HGR)) (.bool r)).setCell (p:=⟨gr,1,none⟩) (.inr (unhide HGR)) (.int .u64 p)).setCell (p:=⟨gr,2,none⟩) (.inr (unhide HGR)) (.int .u64 q)).setCell (p:=⟨gr,3,none⟩) (.inr (unhide HGR)) (.pointer none)).alloc (.cells #[.bool r,.int .u64 p,.int .u64 q,.pointer none] 36)
  exact bodyPost_ret (v:=.agg #[.bool r,.int .u64 p,.int .u64 q,.pointer none]) (by simp [results,Tryz.results36,go_sem,u0,u1,u2,u3,gl1]) rfl ⟨rfl,hBf⟩
end Go.Proofs.YtndcigdphgojpaaGreatDoor

namespace Go.Proofs.YtndcigdphgojpaaGreatDoor
open Go.RowKit

theorem int_parts (n : Int) : ((n : Int) : Rat).num = n∧((n : Int) : Rat).den = 1:=⟨by simp,by simp⟩
end Go.Proofs.YtndcigdphgojpaaGreatDoor

namespace Go.Proofs.YtndcigdphgojpaaGreatDoor
open Go.RowKit

theorem den_times (x : Rat) : x * ((x.den : Int) : Rat) = ((x.num : Int) : Rat):=by
 obtain ⟨i1,i2⟩:=int_parts (x.den : Int)
 obtain ⟨j1,j2⟩:=int_parts x.num
 have h:=cross_mul x ((x.den : Int) : Rat)
 rw [i1,i2,Nat.mul_one] at h
 have hd:=den_pos x
 obtain ⟨e1,e2⟩:=rat_of_coprime x.num 1 (by omega) (by simp) (x * ((x.den : Int) : Rat)) (by
  refine Int.eq_of_mul_eq_mul_right (show (x.den : Int) ≠ 0 by omega) ?_
  grind)
 exact Rat.ext (by rw [e1,j1]) (by rw [e2,j2])
theorem int_ne (z : Int) (h : z ≠ 0) : ((z : Int) : Rat) ≠ 0:=fun e => h (by
 have:=congrArg Rat.num e
 rwa [(int_parts z).1] at this)
/-- the fraction of a pair: a lower number of 0 counts as 1 -/
def qf (q : Int × Int) : Rat:=((q.1 : Int) : Rat) / (((if q.2 = 0 then 1 else q.2) : Int) : Rat)
theorem qf_of (f : Rat) (q : Int × Int) (h : f.num * (if q.2 = 0 then 1 else q.2) = q.1 * f.den) : f = qf q:=by
 unfold qf
 have hy : (if q.2 = 0 then (1 : Int) else q.2) ≠ 0:=by split <;> omega
 generalize (if q.2 = 0 then (1 : Int) else q.2) = y at *
 have h1:=den_times f
 have h2 : ((f.num * y : Int) : Rat) = ((q.1 * (f.den : Int) : Int) : Rat):=by rw [h]
 rw [Rat.intCast_mul,Rat.intCast_mul] at h2
 have hd:=int_ne (f.den : Int) (by have:=den_pos f; omega)
 have hy':=int_ne y hy
 generalize ((y : Int) : Rat) = Y at *
 generalize ((f.den : Int) : Rat) = D at *
 generalize ((f.num : Int) : Rat) = M at *
 generalize ((q.1 : Int) : Rat) = X at *
 rw [← h1] at h2
 grind
/-- numbers that an int can be -/
def Fits (q : Int × Int) : Prop:=-9223372036854775808 ≤ q.1∧q.1 < 9223372036854775808∧-9223372036854775808 ≤ q.2∧q.2 < 9223372036854775808
theorem plainF_at (q : Int × Int) (h : Fits q) : ∃ (r : Bool) (x y : Int),Len (qf q) 1∧(∀ W,FracAt W (.agg #[.bool r,.int .u64 x,.int .u64 y,.pointer none]) (qf q))∧∀ W,Calls Tryz.prog 36 #[.agg #[.int .i64 q.1,.int .i64 q.2]] W fun e w' => e = .returned (.agg #[.bool r,.int .u64 x,.int .u64 y,.pointer none])∧But [] W w':=by
 obtain ⟨f,r,x,y,h1,h2,h3,h4⟩:=plainF_any q.1 q.2 h.1 h.2.1 h.2.2.1 h.2.2.2
 have e:=qf_of f q h2
 subst e
 exact ⟨r,x,y,h1,h3,h4⟩

/-- the slice v holds pairs -/
def QsAt (w : World) (v : Value) (qs : List (Int × Int)) : Prop:=∃ a cap,v = .slice a qs.length cap∧qs.length ≤ cap∧∀ i q,qs[i]? = some q→∃ b off,a = some ⟨b,off,none⟩∧w.cell? ⟨b,off + i * 2,none⟩ = some (.int .i64 q.1)∧w.cell? ⟨b,off + i * 2 + 1,none⟩ = some (.int .i64 q.2)
theorem append_frac (w : World) (base : Nat) (v : Value) (k : Nat) (vs : List Value) (hown : w.ownsRow base 36 4 v k (parts4 vs)) (g : Nat) (s : Bool) (x y : Int) (p : Option Addr) (c : P4 w g s x y p) (hk : k < 1000000) (hb : base ≤ w.heap.size) :
  ∃ v' w',(Builtin.append_ #[43,43] 43 #[v,.slice (some ⟨g,0,none⟩) 1 1]).run Tryz.prog w = .ok v' w'∧w'.ownsRow base 36 4 v' (k + 1) (parts4 (vs ++ [.agg #[.bool s,.int .u64 x,.int .u64 y,.pointer p]]))∧w.grownBy w' v.ownBlock:=by
 obtain ⟨i0,hi,hz0,hz1,hz2⟩:=info_frac
 obtain ⟨v',w',hr,ho,hg,-⟩:=run_append_own (P:=Tryz.prog) w base 43 43 36 i0 _ 4 32 Tryz.underlying43 hi hz0 hz1 hz2 rfl (by decide) v k (parts4 vs) hown ⟨g,0,none⟩ 1 1 [.bool s,.int .u64 x,.int .u64 y,.pointer p] rfl (fun j u hj => by
   have : j = 0 ∨ j = 1 ∨ j = 2 ∨ j = 3 ∨ 4 ≤ j:=by omega
   obtain ⟨c0,c1,c2,c3⟩:=c
   rcases this with rfl | rfl | rfl | rfl | h4
   ·simp at hj; subst hj; exact c0
   ·simp at hj; subst hj; exact c1
   ·simp at hj; subst hj; exact c2
   ·simp at hj; subst hj; exact c3
   ·rw [List.getElem?_eq_none (by simpa using h4)] at hj; simp at hj) (fun u hu => by
   simp only [List.mem_cons,List.not_mem_nil,or_false] at hu
   rcases hu with rfl | rfl | rfl | rfl <;> rfl) (by unfold maxLen; omega) (by omega) hb
 refine ⟨v',w',hr,?_,hg⟩
 rw [parts4_append]
 exact ho
end Go.Proofs.YtndcigdphgojpaaGreatDoor

namespace Go.Proofs.YtndcigdphgojpaaGreatDoor

/-- the chance to live n years from the i-th age on, within a table -/
def prS (fs : List Rat) (i : Nat) : Nat→Rat
 | 0 => 1
 | n + 1 => prS fs i n * (1 - fs[i + n]?.getD 0)
/-- the chance to live n years from the i-th age on -/
def pvT (fs : List Rat) (i n : Nat) : Rat:=if 0 < n∧fs.length ≤ i + n then 0 else prS fs i n
theorem prS_add (fs : List Rat) (i n : Nat) : ∀ m,prS fs i (n + m) = prS fs i n * prS fs (i + n) m
 | 0 => (Rat.mul_one _).symm
 | m + 1 => by
  show prS fs i (n + m) * (1 - fs[i + (n + m)]?.getD 0) = prS fs i n * (prS fs (i + n) m * (1 - fs[i + n + m]?.getD 0))
  rw [prS_add fs i n m,Rat.mul_assoc,Nat.add_assoc]
theorem pvT_add (fs : List Rat) (i n m : Nat) : pvT fs i n * pvT fs (i + n) m = pvT fs i (n + m):=by
 unfold pvT
 by_cases hn : n = 0
 ·subst hn
  rw [if_neg (by omega),Nat.zero_add,Nat.add_zero]
  exact Rat.one_mul _
 ·by_cases hm : m = 0
  ·subst hm
   rw [if_neg (c:=0 < 0∧_) (by omega),Nat.add_zero]
   exact Rat.mul_one _
  ·by_cases h1 : fs.length ≤ i + n
   ·rw [if_pos ⟨by omega,h1⟩,if_pos (c:=0 < n + m∧_) ⟨by omega,by omega⟩,Rat.zero_mul]
   ·rw [if_neg (c:=0 < n∧_) (by omega)]
    by_cases h2 : fs.length ≤ i + n + m
    ·rw [if_pos ⟨by omega,h2⟩,if_pos ⟨by omega,by omega⟩,Rat.mul_zero]
    ·rw [if_neg (by omega),if_neg (by omega),prS_add]
theorem len_prS (fs : List Rat) (hl : ∀ f ∈ fs,Len f 1) (i : Nat) : ∀ n,Len (prS fs i n) (1 + n * 4)
 | 0 => show Len (1 : Rat) 1 from len_of (m:=1) (n:=1) (by decide) (by decide) 1 (by omega) (by omega)
 | n + 1 => by
  show Len (prS fs i n * (1 - fs[i + n]?.getD 0)) _
  have h1 : Len (fs[i + n]?.getD 0) 1:=by
   cases e : fs[i + n]? with
   | none => exact len_of (m:=1) (n:=1) (by decide) (by decide) 1 (by omega) (by omega)
   | some f => exact hl f (List.mem_of_getElem? e)
  have h2 : Len (1 : Rat) 1:=len_of (m:=1) (n:=1) (by decide) (by decide) 1 (by omega) (by omega)
  exact (len_mul (len_prS fs hl i n) (len_sub h2 h1 4 (by omega)) _ (Nat.le_refl _)).mono (by omega)
theorem len_pvT (fs : List Rat) (hl : ∀ f ∈ fs,Len f 1) (hn : fs.length ≤ 60) (i n : Nat) : Len (pvT fs i n) 300:=by
 unfold pvT
 by_cases h : 0 < n∧fs.length ≤ i + n
 ·rw [if_pos h]
  exact len_of (m:=1) (n:=1) (by decide) (by decide) 1 (by omega) (by omega) |>.mono (by omega)
 ·rw [if_neg h]
  exact (len_prS fs hl i n).mono (by omega)
end Go.Proofs.YtndcigdphgojpaaGreatDoor

namespace Go.Proofs.YtndcigdphgojpaaGreatDoor
open Go.RowKit

/-- a row of fractions, all told -/
structure RowOf (w : World) (g n : Nat) (F : Nat→Rat) : Prop where
 told : ∀ j,j < n→LiesAt w g (j * 4) (F j)
 loose : ∀ o,w.frozen? ⟨g,o,none⟩ = false
end Go.Proofs.YtndcigdphgojpaaGreatDoor
