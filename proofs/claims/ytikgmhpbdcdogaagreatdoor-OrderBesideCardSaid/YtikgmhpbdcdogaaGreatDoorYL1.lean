/- Two laws beside each other, plain: what each amount of the one is given of the other, from the lowest on. -/
import Derived.Test.YtikgmhpbdcdogaaGreatDoorYK8
import Derived.Test.YtikgmhpbdcdogaaGreatDoorYKN
namespace Go.Proofs.YtikgmhpbdcdogaaGreatDoor

def leastR (f g : Rat) : Rat:=if f ≤ g then f else g
/-- what is left of a chance behind k amounts, and what each amount is given -/
def tkC (L : Nat→Rat) (c : Rat) : Nat→Rat
 | 0 => c
 | k + 1 => tkC L c k - leastR (tkC L c k) (L k)
def tkP (L : Nat→Rat) (c : Rat) (k : Nat) : Rat:=leastR (tkC L c k) (L k)
def max0 (x : Rat) : Rat:=if 0 ≤ x then x else 0
theorem tk_pref (L : Nat→Rat) (c : Rat) (n : Nat) (hL : ∀ k,k < n→0 ≤ L k) (hc : 0 ≤ c) : ∀ k,k ≤ n→tkC L c k = max0 (c - sgR L k)∧sgR (fun j => L j - tkP L c j) k = max0 (sgR L k - c)∧∀ j,j < k→0 ≤ tkP L c j∧tkP L c j ≤ L j
 | 0,_ => by
  refine ⟨?_,?_,fun j hj => absurd hj (by omega)⟩
  ·show c = max0 (c - 0)
   unfold max0
   rw [if_pos (by grind)]; grind
  ·show (0 : Rat) = max0 (0 - c)
   unfold max0
   split <;> grind
 | k + 1,h => by
  obtain ⟨h1,h2,h3⟩:=tk_pref L c n hL hc k (by omega)
  have hk:=hL k (by omega)
  have e1 : tkC L c (k + 1) = tkC L c k - leastR (tkC L c k) (L k):=rfl
  have e2 : sgR L (k + 1) = sgR L k + L k:=rfl
  have e3 : sgR (fun j => L j - tkP L c j) (k + 1) = sgR (fun j => L j - tkP L c j) k + (L k - tkP L c k):=rfl
  have e4 : tkP L c k = leastR (tkC L c k) (L k):=rfl
  have hc0 : 0 ≤ tkC L c k:=by rw [h1]; unfold max0; split <;> grind
  have h5 : 0 ≤ tkP L c k∧tkP L c k ≤ L k:=by
   rw [e4]; unfold leastR
   split <;> grind
  refine ⟨?_,?_,fun j hj => ?_⟩
  ·rw [e1,e2,h1]
   unfold leastR max0
   split <;> split <;> (try split) <;> grind
  ·rw [e3,e2,h2,e4,h1]
   unfold leastR max0
   split <;> split <;> (try split) <;> (try split) <;> grind
  ·by_cases e : j = k
   ·rw [e]; exact h5
   ·exact h3 j (by omega)
/-- what is left of the second law behind i amounts of the first, and what both are together -/
def besL (a b : Nat→Rat) : Nat→Nat→Rat
 | 0 => b
 | i + 1 => fun k => besL a b i k - tkP (besL a b i) (a i) k
def besM (a b : Nat→Rat) (i k : Nat) : Rat:=tkP (besL a b i) (a i) k
theorem sgR_sub (f g : Nat→Rat) : ∀ n,sgR (fun k => f k - g k) n = sgR f n - sgR g n
 | 0 => by
  show (0 : Rat) = 0 - 0
  grind
 | n + 1 => by
  show sgR _ n + (f n - g n) = sgR f n + f n - (sgR g n + g n)
  rw [sgR_sub f g n]; grind
theorem sgR_mono (f : Nat→Rat) (hf : ∀ k,0 ≤ f k) (m : Nat) : ∀ d,sgR f m ≤ sgR f (m + d)
 | 0 => Rat.le_refl
 | d + 1 => by
  have:=sgR_mono f hf m d
  have h:=hf (m + d)
  show sgR f m ≤ sgR f (m + d) + f (m + d)
  grind
theorem bes_pref (a b : Nat→Rat) (na nb : Nat) (ha : ∀ i,i < na→0 ≤ a i) (hb : ∀ k,k < nb→0 ≤ b k) : ∀ i,i ≤ na→(∀ k,k < nb→0 ≤ besL a b i k)∧∀ k,k ≤ nb→sgR (besL a b i) k = max0 (sgR b k - sgR a i)
 | 0,_ => by
  refine ⟨hb,fun k hk => ?_⟩
  have h:=sgR_nonneg b k (fun j hj => hb j (by omega))
  show sgR b k = max0 (sgR b k - 0)
  unfold max0
  rw [if_pos (by grind)]; grind
 | i + 1,h => by
  obtain ⟨h1,h2⟩:=bes_pref a b na nb ha hb i (by omega)
  have t:=tk_pref (besL a b i) (a i) nb h1 (ha i (by omega))
  refine ⟨fun k hk => ?_,fun k hk => ?_⟩
  ·have:=(t (k + 1) (by omega)).2.2 k (by omega)
   show 0 ≤ besL a b i k - tkP (besL a b i) (a i) k
   grind
  ·have h3:=(t k hk).2.1
   show sgR (fun k => besL a b i k - tkP (besL a b i) (a i) k) k = _
   rw [h3,h2 k hk]
   have e : sgR a (i + 1) = sgR a i + a i:=rfl
   have hai:=ha i (by omega)
   rw [e]
   unfold max0
   split <;> split <;> (try split) <;> grind
theorem besL_sum (a b : Nat→Rat) (k : Nat) : ∀ i,besL a b i k = b k - sgR (fun j => besM a b j k) i
 | 0 => by
  show b k = b k - 0
  grind
 | i + 1 => by
  have:=besL_sum a b k i
  show besL a b i k - tkP (besL a b i) (a i) k = b k - (sgR (fun j => besM a b j k) i + besM a b i k)
  unfold besM at *
  grind
structure Beside (a b : Nat→Rat) (na nb : Nat) : Prop where
 pos : ∀ i,i < na→∀ k,k < nb→0 ≤ besM a b i k
 row : ∀ i,i < na→sgR (besM a b i) nb = a i
 col : ∀ k,k < nb→sgR (fun i => besM a b i k) na = b k
 zero : ∀ i,i < na→∀ k,k < i→k < nb→besM a b i k = 0
theorem beside_all (a b : Nat→Rat) (na nb : Nat) (ha : ∀ i,0 ≤ a i) (hb : ∀ k,0 ≤ b k) (sa : sgR a na = 1) (sb : sgR b nb = 1) (hle : ∀ i,sgR b i ≤ sgR a i) : Beside a b na nb:=by
 have A1 : ∀ i,i ≤ na→sgR a i ≤ 1:=fun i hi => by
  have:=sgR_mono a ha i (na - i)
  rw [show i + (na - i) = na from by omega,sa] at this
  exact this
 have pr:=fun i (hi : i ≤ na) => bes_pref a b na nb (fun j _ => ha j) (fun j _ => hb j) i hi
 have tk:=fun i (hi : i < na) => tk_pref (besL a b i) (a i) nb (pr i (by omega)).1 (ha i)
 have hlast : ∀ k,k < nb→besL a b na k = 0:=fun k hk => by
  have h1:=(pr na (Nat.le_refl _)).2 (k + 1) (by omega)
  have h2:=(pr na (Nat.le_refl _)).2 k (by omega)
  have e : sgR (besL a b na) (k + 1) = sgR (besL a b na) k + besL a b na k:=rfl
  rw [e,h2,sa] at h1
  have hB:=sgR_mono b hb (k + 1) (nb - (k + 1))
  rw [show k + 1 + (nb - (k + 1)) = nb from by omega,sb] at hB
  have e2 : sgR b (k + 1) = sgR b k + b k:=rfl
  have:=hb k
  rw [e2] at h1 hB
  unfold max0 at h1
  split at h1 <;> split at h1 <;> grind
 refine ⟨fun i hi k hk => ((tk i hi nb (Nat.le_refl _)).2.2 k hk).1,fun i hi => ?_,fun k hk => ?_,fun i hi k hki hk => ?_⟩
 ·have h1:=(pr i (by omega)).2 nb (Nat.le_refl _)
  have h2:=(pr (i + 1) (by omega)).2 nb (Nat.le_refl _)
  have e : sgR (besL a b (i + 1)) nb = sgR (besL a b i) nb - sgR (besM a b i) nb:=sgR_sub _ _ nb
  rw [e,h1,sb] at h2
  have a1:=A1 i (by omega)
  have a2:=A1 (i + 1) (by omega)
  have e2 : sgR a (i + 1) = sgR a i + a i:=rfl
  rw [e2] at h2 a2
  have:=ha i
  unfold max0 at h2
  split at h2 <;> split at h2 <;> grind
 ·have h:=besL_sum a b k na
  rw [hlast k hk] at h
  grind
 ·have h1:=(pr i (by omega)).2 (k + 1) (by omega)
  have h2:=(pr i (by omega)).2 k (by omega)
  have e : sgR (besL a b i) (k + 1) = sgR (besL a b i) k + besL a b i k:=rfl
  have hm:=sgR_mono a ha (k + 1) (i - (k + 1))
  rw [show k + 1 + (i - (k + 1)) = i from by omega] at hm
  have hl:=hle (k + 1)
  have e2 : sgR b (k + 1) = sgR b k + b k:=rfl
  have hbk:=hb k
  have hz : besL a b i k = 0:=by
   rw [e,h2] at h1
   rw [e2] at h1 hl
   unfold max0 at h1
   split at h1 <;> split at h1 <;> grind
  have ht:=(tk i hi nb (Nat.le_refl _)).2.2 k hk
  show tkP (besL a b i) (a i) k = 0
  rw [hz] at ht
  exact Rat.le_antisymm ht.2 ht.1
theorem abel (f : Nat→Rat) : ∀ n,sgR (fun k => f k * ((k : Int) : Rat)) n + sgR (fun k => sgR f (k + 1)) n = ((n : Int) : Rat) * sgR f n
 | 0 => by
  show (0 : Rat) + 0 = ((0 : Int) : Rat) * 0
  grind
 | n + 1 => by
  have ih:=abel f n
  have ek : (((n + 1 : Nat) : Int) : Rat) = ((n : Int) : Rat) + 1:=by
   rw [Int.natCast_add,Rat.intCast_add]; rfl
  rw [ek]
  show sgR (fun k => f k * ((k : Int) : Rat)) n + f n * ((n : Int) : Rat) + (sgR (fun k => sgR f (k + 1)) n + (sgR f n + f n)) = (((n : Int) : Rat) + 1) * (sgR f n + f n)
  generalize sgR (fun k => f k * ((k : Int) : Rat)) n = u at *
  generalize sgR (fun k => sgR f (k + 1)) n = v at *
  generalize ((n : Int) : Rat) = c at *
  grind
theorem mean_le (a b : Nat→Rat) (n : Nat) (sa : sgR a n = 1) (sb : sgR b n = 1) (hle : ∀ i,sgR b i ≤ sgR a i) : sgR (fun k => a k * ((k : Int) : Rat)) n ≤ sgR (fun k => b k * ((k : Int) : Rat)) n:=by
 have h1:=abel a n
 have h2:=abel b n
 rw [sa] at h1
 rw [sb] at h2
 have h3:=sgR_nonneg (fun k => sgR a (k + 1) - sgR b (k + 1)) n (fun k _ => by
  have:=hle (k + 1)
  show 0 ≤ sgR a (k + 1) - sgR b (k + 1)
  grind)
 rw [sgR_sub] at h3
 generalize sgR (fun k => sgR a (k + 1)) n = u at *
 generalize sgR (fun k => sgR b (k + 1)) n = v at *
 grind
/-- nowhere more from some amount on is nowhere less up to it -/
theorem always_le (a b : Nat→Rat) (n : Nat) (sa : sgR a n = 1) (sb : sgR b n = 1) (za : ∀ k,n ≤ k→a k = 0) (zb : ∀ k,n ≤ k→b k = 0) (h : ∀ j,j < n→¬ 0 < upS (fun k => a k - b k) n j) : ∀ i,sgR b i ≤ sgR a i:=fun i => by
 by_cases hi : i ≤ n
 ·by_cases h0 : i = 0
  ·rw [h0]; exact Rat.le_refl
  ·have h1:=h (n - i) (by omega)
   have h2:=upS_sg (fun k => a k - b k) n (n - i) (by omega)
   rw [show n - (n - i) = i from by omega,sgR_sub,sgR_sub,sa,sb] at h2
   grind
 ·have e1:=sgR_more a n (i - n) za
  have e2:=sgR_more b n (i - n) zb
  rw [show n + (i - n) = i from by omega] at e1 e2
  rw [e1,e2,sa,sb]
  exact Rat.le_refl
end Go.Proofs.YtikgmhpbdcdogaaGreatDoor

namespace Go.Proofs.YtikgmhpbdcdogaaGreatDoor
open Go.RowKit

set_option maxHeartbeats 8000000 in
set_option maxRecDepth 100000 in
theorem orderAt_any (v : Value) (fs : List Rat) (k : Nat) (w : World) (hv : FracsAt w v fs) (_hn : fs.length ≤ 1000) (_hk : k < 1000000) :
  Calls Tryz.prog 109 #[v,.int .i64 (k : Int)] w fun e w' => ∃ s x y p,e = .returned (.agg #[.bool s,.int .u64 x,.int .u64 y,.pointer p])∧FracAt w' (.agg #[.bool s,.int .u64 x,.int .u64 y,.pointer p]) (fs[k]?.getD 0)∧But [] w w':=by
 obtain ⟨q,cap,rfl,hcap,-⟩:=id hv
 obtain ⟨n,hN⟩ : ∃ n,n = fs.length:=⟨_,rfl⟩
 rw [← hN] at _hn hcap hv ⊢
 have HV:=hide hv
 have HN:=hide hN
 have bA : But [] w (w.alloc (.cells #[.bool false,.int .u64 0,.int .u64 0,.pointer none] 29)):=(But.refl _ _).alloc _
 have X4:=hide (BoxAt.new w false 0 0 none 0 29 (zero_at _))
 have BA:=hide bA
 have Q4 : Hid (w.heap.size ≤ w.heap.size):=Nat.le_refl _
 clear hv hN bA
 go_enter Tryz.func109,Tryz.ntmps109
 by_cases hlt : k < n
 ·have hkl : k < fs.length:=by have:=unhide HN; omega
  have hfx:=(unhide HV).but (unhide BA)
  rcases hfx.open with ⟨er,-⟩ | ⟨-,rb,roff,rcap2,er,-,-⟩
  ·rw [er] at hkl
   simp at hkl
  simp only [Value.slice.injEq] at er
  obtain ⟨rfl,-,rfl⟩:=er
  obtain ⟨sr,xr,yr,pr,⟨r0,r1,r2,r3⟩,hfr⟩:=hfx.get k hlt
  obtain ⟨⟨t4,a4,b4,q4,⟨c0,c1,c2,c3⟩,-⟩,z4⟩:=unhide X4
  have P4' : Hid (P4 (w.alloc (.cells #[.bool false,.int .u64 0,.int .u64 0,.pointer none] 29)) w.heap.size t4 a4 b4 q4):=⟨c0,c1,c2,c3⟩
  have HFR:=hide hfr
  generalize hU : w.alloc (.cells #[.bool false,.int .u64 0,.int .u64 0,.pointer none] 29) = U at *
  generalize hg4 : w.heap.size = g4 at *
  have R4 : Hid (P4o U rb (roff + k * 4) sr xr yr pr):=⟨r0,r1,r2,r3⟩
  clear hfx hfr X4
  go_wp2
  try rw [hU]
  have hP:=put4_but U g4 sr xr yr pr
  obtain ⟨m0,m1,m2,m3⟩:=put4_p4 U g4 sr xr yr pr (unhide P4')
  have hF : But [] w (put4 U g4 sr xr yr pr):=(unhide BA).trans hP (fun x hx => by simp at hx; subst hx; exact .inr (by omega))
  have hff:=(unhide HFR).over (unhide P4').1 hP
  change bodyPost _ _ _ _ _ (put4 U g4 sr xr yr pr)
  generalize put4 U g4 sr xr yr pr = F at *
  exact bodyPost_ret (v:=.agg #[.bool sr,.int .u64 xr,.int .u64 yr,.pointer pr]) (by simp [results,Tryz.results109,go_sem,m0,m1,m2,m3]) rfl ⟨_,_,_,_,rfl,hff,hF⟩
 ·have hz : fs[k]?.getD 0 = 0:=by rw [List.getElem?_eq_none (by have:=unhide HN; omega)]; rfl
  rw [hz]
  go_wp2
  have hc:=(unhide X4).1
  exact bodyPost_ret (v:=.agg #[.bool false,.int .u64 0,.int .u64 0,.pointer none]) (by simp [results,Tryz.results109,go_sem]) rfl ⟨_,_,_,_,rfl,zero_at _,unhide BA⟩
set_option maxHeartbeats 8000000 in
set_option maxRecDepth 100000 in
theorem least_any (vf vg : Value) (f g : Rat) (w : World) (hf : FracAt w vf f) (hg : FracAt w vg g) (lf : Len f 1000000) (lg : Len g 1000000) :
  Calls Tryz.prog 110 #[vf,vg] w fun e w' => ∃ s x y p,e = .returned (.agg #[.bool s,.int .u64 x,.int .u64 y,.pointer p])∧FracAt w' (.agg #[.bool s,.int .u64 x,.int .u64 y,.pointer p]) (leastR f g)∧But [] w w':=by
 obtain ⟨r,hr⟩ : ∃ r,r = cmpZ (f.num * (g.den : Int)) (g.num * (f.den : Int)):=⟨_,rfl⟩
 have hle : r ≤ 0 ↔ f ≤ g:=by
  have h:=(cmpZ_tells f g r hr).2.1
  constructor
  ·intro h1
   exact Rat.not_lt.1 (fun h2 => by have:=h.2 h2; omega)
  ·intro h1
   rcases Int.lt_or_le 0 r with h2 | h2
   ·exact absurd h1 (Rat.not_le.2 (h.1 h2))
   ·exact h2
 have CM:=hide (fun W (h : But [] w W) => fracCmp_any vf vg f g W (hf.but h) (hg.but h) (lf.mono (by omega)) (lg.mono (by omega)) r hr)
 have HFA:=hide hf
 have HGA:=hide hg
 have HLE:=hide hle
 obtain ⟨x1,y1,p1,rfl,-⟩:=hf.agg
 obtain ⟨x2,y2,p2,rfl,-⟩:=hg.agg
 clear hf hg lf lg hr hle
 generalize hsf : decide (f.num < 0) = s1 at *
 generalize hsg : decide (g.num < 0) = s2 at *
 clear hsf hsg
 obtain ⟨W,hW⟩ : ∃ W,W = (((w.alloc (.cells #[.bool s1,.int .u64 x1,.int .u64 y1,.pointer p1] 29)).alloc (.cells #[.bool s2,.int .u64 x2,.int .u64 y2,.pointer p2] 29)).alloc (.cells #[.bool false,.int .u64 0,.int .u64 0,.pointer none] 29)):=⟨_,rfl⟩
 obtain ⟨tA,tB,tC,fz,hB⟩:=three_new w W _ _ _ _ hW
 have a0:=tA 0
 have a1:=tA 1
 have a2:=tA 2
 have a3:=tA 3
 have b0:=tB 0
 have b1:=tB 1
 have b2:=tB 2
 have b3:=tB 3
 have r0:=tC 0
 have r1:=tC 1
 have r2:=tC 2
 have r3:=tC 3
 simp only [List.getElem?_toArray,List.getElem?_cons_zero,List.getElem?_cons_succ] at a0 a1 a2 a3 b0 b1 b2 b3 r0 r1 r2 r3
 clear tA tB tC
 have HW:=hide hW
 have HB:=hide hB
 clear hW hB
 go_enter Tryz.func110,Tryz.ntmps110
 go_wp2_with fail
 rw [← unhide HW]
 obtain ⟨ga,hga⟩ : ∃ ga,ga = w.heap.size:=⟨_,rfl⟩
 obtain ⟨gb,hgb⟩ : ∃ gb,gb = w.heap.size + 1:=⟨_,rfl⟩
 obtain ⟨gr,hgr⟩ : ∃ gr,gr = w.heap.size + 2:=⟨_,rfl⟩
 rw [← hga] at a0 a1 a2 a3
 rw [← hgb] at b0 b1 b2 b3
 rw [← hgr] at r0 r1 r2 r3 fz
 rw [show w.heap.size + 1 + 1 = w.heap.size + 2 from rfl,← hgr,← hgb,← hga]
 have HGR : Hid (w.heap.size ≤ gr):=by show _ ≤ _; omega
 clear hga hgb hgr HW
 have grl : gr < W.heap.size:=lt_of_cell r0
 refine (unhide CM _ (unhide HB)).mono ?_
 rintro e w2 ⟨rfl,hc2⟩
 have A2 : Hid (P4 w2 ga s1 x1 y1 p1):=⟨hc2.cell_some a0 (by simp),hc2.cell_some a1 (by simp),hc2.cell_some a2 (by simp),hc2.cell_some a3 (by simp)⟩
 have B2' : Hid (P4 w2 gb s2 x2 y2 p2):=⟨hc2.cell_some b0 (by simp),hc2.cell_some b1 (by simp),hc2.cell_some b2 (by simp),hc2.cell_some b3 (by simp)⟩
 have R2 : Hid (P4 w2 gr false 0 0 none):=⟨hc2.cell_some r0 (by simp),hc2.cell_some r1 (by simp),hc2.cell_some r2 (by simp),hc2.cell_some r3 (by simp)⟩
 have uf : ∀ j,w2.frozen? ⟨gr,j,none⟩ = false:=fun j => (hc2.frozen (p:=⟨gr,j,none⟩) grl (by simp)).trans (fz j)
 have B2:=hide ((unhide HB).trans' hc2)
 have gl2 : gr < w2.heap.size:=lt_of_cell (unhide R2).1
 clear hc2 a0 a1 a2 a3 b0 b1 b2 b3 r0 r1 r2 r3 fz grl CM
 obtain ⟨a0,a1,a2,a3⟩:=unhide A2
 obtain ⟨b0,b1,b2,b3⟩:=unhide B2'
 obtain ⟨r0,r1,r2,r3⟩:=unhide R2
 by_cases h : r ≤ 0
 ·have e : leastR f g = f:=by unfold leastR; rw [if_pos ((unhide HLE).1 h)]
  go_wp2
  have hP:=put4_but w2 gr s1 x1 y1 p1
  obtain ⟨m0,m1,m2,m3⟩:=put4_p4 w2 gr s1 x1 y1 p1 (unhide R2)
  have hF : But [] w (put4 w2 gr s1 x1 y1 p1):=(unhide B2).trans hP (fun x hx => by simp at hx; subst hx; exact .inr (unhide HGR))
  have hff:=((unhide HFA).but (unhide B2)).over (unhide R2).1 hP
  change bodyPost _ _ _ _ _ (put4 w2 gr s1 x1 y1 p1)
  generalize put4 w2 gr s1 x1 y1 p1 = F at *
  exact bodyPost_ret (v:=.agg #[.bool s1,.int .u64 x1,.int .u64 y1,.pointer p1]) (by simp [results,Tryz.results110,go_sem,m0,m1,m2,m3]) rfl ⟨_,_,_,_,rfl,by rw [e]; exact hff,hF⟩
 ·have e : leastR f g = g:=by unfold leastR; rw [if_neg (fun h' => h ((unhide HLE).2 h'))]
  go_wp2
  have hP:=put4_but w2 gr s2 x2 y2 p2
  obtain ⟨m0,m1,m2,m3⟩:=put4_p4 w2 gr s2 x2 y2 p2 (unhide R2)
  have hF : But [] w (put4 w2 gr s2 x2 y2 p2):=(unhide B2).trans hP (fun x hx => by simp at hx; subst hx; exact .inr (unhide HGR))
  have hff:=((unhide HGA).but (unhide B2)).over (unhide R2).1 hP
  change bodyPost _ _ _ _ _ (put4 w2 gr s2 x2 y2 p2)
  generalize put4 w2 gr s2 x2 y2 p2 = F at *
  exact bodyPost_ret (v:=.agg #[.bool s2,.int .u64 x2,.int .u64 y2,.pointer p2]) (by simp [results,Tryz.results110,go_sem,m0,m1,m2,m3]) rfl ⟨_,_,_,_,rfl,by rw [e]; exact hff,hF⟩
theorem sign_pos (f : Rat) : 0 < f.num.sign ↔ 0 < f:=by
 have h1 : 0 < f ↔ 0 < f.num:=by
  rw [← Rat.not_le,← Int.not_le,Rat.le_iff]
  simp
 rw [h1]
 rcases Int.lt_trichotomy f.num 0 with h | h | h
 ·rw [Int.sign_eq_neg_one_of_neg h]; omega
 ·rw [h]; decide
 ·rw [Int.sign_eq_one_of_pos h]; omega
set_option maxHeartbeats 8000000 in
set_option maxRecDepth 100000 in
theorem above_any (k : Int) (s1 : Bool) (x1 y1 : Int) (p1 : Option Addr) (s2 : Bool) (x2 y2 : Int) (p2 : Option Addr) (f : Rat) (w : World) (hf : FracAt w (.agg #[.bool s1,.int .u64 x1,.int .u64 y1,.pointer p1]) f) :
  Calls Tryz.prog 66 #[.int .i64 k,.agg #[.bool s1,.int .u64 x1,.int .u64 y1,.pointer p1],.agg #[.bool s2,.int .u64 x2,.int .u64 y2,.pointer p2]] w fun e w' => e = .returned (.bool (decide (0 < f)))∧But [] w w':=by
 have SG:=hide (fun W (h : But [] w W) => fracSign_any _ f W (hf.but h))
 obtain ⟨sg,hsg⟩ : ∃ sg,sg = f.num.sign:=⟨_,rfl⟩
 have e : decide (0 < f) = decide (0 < sg):=by
  have:=sign_pos f
  rw [← hsg] at this
  by_cases h : 0 < sg
  ·rw [decide_eq_true h,decide_eq_true (this.1 h)]
  ·rw [decide_eq_false h,decide_eq_false (fun h' => h (this.2 h'))]
 rw [e]
 rw [← hsg] at SG
 have bA : But [] w ((w.alloc (.cells #[.bool s1,.int .u64 x1,.int .u64 y1,.pointer p1] 29)).alloc (.cells #[.bool s2,.int .u64 x2,.int .u64 y2,.pointer p2] 29)):=((But.refl _ _).alloc _).alloc _
 have BA:=hide bA
 clear bA hf hsg e
 go_enter Tryz.func66,Tryz.ntmps66
 go_wp2_with fail
 refine (unhide SG _ (unhide BA)).mono ?_
 rintro e w1 ⟨rfl,hb1⟩
 have B1:=hide ((unhide BA).trans' hb1)
 clear hb1
 go_wp2
 go_ret
 exact ⟨rfl,unhide B1⟩
def bothE (fs gs : List Rat) : Int:=if chkE fs ≠ 0 then chkE fs else chkE gs
set_option maxHeartbeats 8000000 in
set_option maxRecDepth 100000 in
theorem checkBoth_any (va vb : Value) (fs gs : List Rat) (c : Nat) (w : World) (ha : FracsAt w va fs) (hb : FracsAt w vb gs) (hn : fs.length ≤ 1000) (hm : gs.length ≤ 1000) (lf : ∀ f ∈ fs,Len f c) (lg : ∀ f ∈ gs,Len f c) (hc : c ≤ 100) :
  Calls Tryz.prog 64 #[va,vb] w fun e w' => e = .returned (errV (bothE fs gs))∧But [] w w':=by
 have CA:=hide (lawCheck_any va fs c w ha hn lf hc)
 have CB:=hide (fun W (h : But [] w W) => lawCheck_any vb gs c W (hb.but h) hm lg hc)
 obtain ⟨q,cap,rfl,-,-⟩:=id ha
 obtain ⟨q',cap',rfl,-,-⟩:=id hb
 obtain ⟨be,hbe⟩ : ∃ be,be = bothE fs gs:=⟨_,rfl⟩
 rw [← hbe]
 unfold bothE at hbe
 obtain ⟨ca,hca⟩ : ∃ ca,ca = chkE fs:=⟨_,rfl⟩
 obtain ⟨cb,hcb⟩ : ∃ cb,cb = chkE gs:=⟨_,rfl⟩
 rw [← hca] at CA hbe
 rw [← hcb] at CB hbe
 have HBE:=hide hbe
 clear ha hb hca hcb hbe
 go_enter Tryz.func64,Tryz.ntmps64
 go_wp2_with fail
 refine (unhide CA).mono ?_
 rintro e w1 ⟨rfl,hb1⟩
 have B1:=hide hb1
 clear hb1 CA
 by_cases h0 : ca = 0
 ·obtain rfl : be = cb:=by rw [unhide HBE,if_neg (by simpa using h0)]
  rw [h0,show errV 0 = .nilIface from rfl]
  go_wp2_with fail
  refine (unhide CB _ (unhide B1)).mono ?_
  rintro e w2 ⟨rfl,hb2⟩
  have B2:=hide ((unhide B1).trans' hb2)
  clear hb2
  obtain ⟨ev,hev⟩ : ∃ ev,ev = errV be:=⟨_,rfl⟩
  rw [← hev]
  have HEV:=hide hev
  clear hev
  go_wp2
  go_ret
  exact ⟨congrArg _ (unhide HEV),unhide B2⟩
 ·obtain rfl : be = ca:=by rw [unhide HBE,if_pos h0]
  obtain ⟨ev,hev⟩ : ∃ ev,ev = errV be:=⟨_,rfl⟩
  have hev2 : ev = .iface 54 (.int .i64 be):=by rw [hev]; unfold errV; rw [if_neg h0]
  rw [← hev,hev2]
  have HEV:=hide (hev2.symm.trans hev)
  clear hev hev2
  go_wp2
  go_ret
  exact ⟨congrArg _ (unhide HEV),unhide B1⟩
end Go.Proofs.YtikgmhpbdcdogaaGreatDoor

namespace Go.Proofs.YtikgmhpbdcdogaaGreatDoor
open Go.RowKit

set_option maxHeartbeats 8000000 in
set_option maxRecDepth 100000 in
theorem like_len (va vb : Value) (f : Rat) (w : World) (ha : FracAt w va f) (hb : FracAt w vb f) (hl : Len f 1000000) (htab : Lib.TabIs Tryz.prog w "internal/strconv.uint64pow10" .u64 Lib.pow10Tab) :
  Calls Tryz.prog 18 #[va,vb] w fun e w' => e = .returned (.bool true)∧But [] w w':=by
 have hl2 : Len f 33554431:=⟨Nat.le_trans hl.1 (by omega),Nat.le_trans hl.2 (by omega)⟩
 obtain ⟨t,ht⟩ : ∃ t,t = fracTxt (decide (f.num < 0)) f.num.natAbs f.den:=⟨_,rfl⟩
 have CM : Hid (∀ W,But [] w W→Calls Tryz.prog 22 #[va,vb] W fun e w' => e = .returned (.int .i64 0)∧But [] W w'):=fun W h => fracCmp_any va vb f f W (ha.but h) (hb.but h) hl2 hl2 0 (by show _ = _; simp [cmpZ])
 have TA : Hid (∀ W,But [] w W→Calls Tryz.prog 42 #[va] W fun e w' => e = .returned (.string t)∧But [] W w'):=fun W h => fracText_len va f W (ha.but h) hl (TabIs.but htab h) t ht
 have TB : Hid (∀ W,But [] w W→Calls Tryz.prog 42 #[vb] W fun e w' => e = .returned (.string t)∧But [] W w'):=fun W h => fracText_len vb f W (hb.but h) hl (TabIs.but htab h) t ht
 obtain ⟨x1,y1,p1,rfl,-⟩:=ha.agg
 obtain ⟨x2,y2,p2,rfl,-⟩:=hb.agg
 clear ha hb hl hl2 ht htab
 generalize hs : decide (f.num < 0) = s at *
 clear hs
 obtain ⟨W,hW⟩ : ∃ W,W = ((w.alloc (.cells #[.bool s,.int .u64 x1,.int .u64 y1,.pointer p1] 29)).alloc (.cells #[.bool s,.int .u64 x2,.int .u64 y2,.pointer p2] 29)):=⟨_,rfl⟩
 obtain ⟨tA,tB,-,hB⟩:=two_new w W _ _ _ hW
 have a0:=tA 0
 have a1:=tA 1
 have a2:=tA 2
 have a3:=tA 3
 have b0:=tB 0
 have b1:=tB 1
 have b2:=tB 2
 have b3:=tB 3
 simp only [List.getElem?_toArray,List.getElem?_cons_zero,List.getElem?_cons_succ] at a0 a1 a2 a3 b0 b1 b2 b3
 clear tA tB
 have HW:=hide hW
 have HB:=hide hB
 clear hW hB
 go_enter Tryz.func18,Tryz.ntmps18
 go_wp2
 rw [← unhide HW]
 obtain ⟨ga,hga⟩ : ∃ ga,ga = w.heap.size:=⟨_,rfl⟩
 obtain ⟨gb,hgb⟩ : ∃ gb,gb = w.heap.size + 1:=⟨_,rfl⟩
 rw [← hga] at a0 a1 a2 a3
 rw [← hgb] at b0 b1 b2 b3
 rw [← hgb,← hga]
 clear hga hgb HW
 go_region_held (fun w' => w'.cell? ⟨ga,0,none⟩ = some (.bool s)∧w'.cell? ⟨ga,1,none⟩ = some (.int .u64 x1)∧w'.cell? ⟨ga,2,none⟩ = some (.int .u64 y1)∧w'.cell? ⟨ga,3,none⟩ = some (.pointer p1)∧w'.cell? ⟨gb,0,none⟩ = some (.bool s)∧w'.cell? ⟨gb,1,none⟩ = some (.int .u64 x2)∧w'.cell? ⟨gb,2,none⟩ = some (.int .u64 y2)∧w'.cell? ⟨gb,3,none⟩ = some (.pointer p2)) (go_keep) (first
  | (go_at_call 42; have hchk:=B2; clear hchk; refine (unhide TB _ (by first | exact (unhide HB).trans' B2 | exact ((unhide HB).trans' B2).drew)).mono ?_; rintro e w3 ⟨rfl,hc3⟩; have B3 : But [] W w3:=(by first | exact B2.trans' hc3 | exact (B2.drew).trans' hc3); clear hc3; have a0_3:=B3.cell_some a0 (by simp); have a1_3:=B3.cell_some a1 (by simp); have a2_3:=B3.cell_some a2 (by simp); have a3_3:=B3.cell_some a3 (by simp); have b0_3:=B3.cell_some b0 (by simp); have b1_3:=B3.cell_some b1 (by simp); have b2_3:=B3.cell_some b2 (by simp); have b3_3:=B3.cell_some b3 (by simp); clear a0_2 a1_2 a2_2 a3_2 b0_2 b1_2 b2_2 b3_2)
  | (go_at_call 42; have hchk:=B1; clear hchk; refine (unhide TA _ (by first | exact (unhide HB).trans' B1 | exact ((unhide HB).trans' B1).drew)).mono ?_; rintro e w2 ⟨rfl,hc2⟩; have B2 : But [] W w2:=(by first | exact B1.trans' hc2 | exact (B1.drew).trans' hc2); clear hc2; have a0_2:=B2.cell_some a0 (by simp); have a1_2:=B2.cell_some a1 (by simp); have a2_2:=B2.cell_some a2 (by simp); have a3_2:=B2.cell_some a3 (by simp); have b0_2:=B2.cell_some b0 (by simp); have b1_2:=B2.cell_some b1 (by simp); have b2_2:=B2.cell_some b2 (by simp); have b3_2:=B2.cell_some b3 (by simp); clear a0_1 a1_1 a2_1 a3_1 b0_1 b1_1 b2_1 b3_1)
  | (go_at_call 22; refine (unhide CM _ (by first | exact unhide HB | exact (unhide HB).drew)).mono ?_; rintro e w1 ⟨rfl,hc1⟩; have B1 : But [] W w1:=(by first | exact hc1 | exact (But.refl _ _).drew.trans' hc1); clear hc1; have a0_1:=B1.cell_some a0 (by simp); have a1_1:=B1.cell_some a1 (by simp); have a2_1:=B1.cell_some a2 (by simp); have a3_1:=B1.cell_some a3 (by simp); have b0_1:=B1.cell_some b0 (by simp); have b1_1:=B1.cell_some b1 (by simp); have b2_1:=B1.cell_some b2 (by simp); have b3_1:=B1.cell_some b3 (by simp)))
 have HB3 : Hid (But [] w w3):=(unhide HB).trans' B3
 clear B1 B2 B3
 go_wp2
 go_ret
 exact ⟨rfl,unhide HB3⟩
end Go.Proofs.YtikgmhpbdcdogaaGreatDoor
