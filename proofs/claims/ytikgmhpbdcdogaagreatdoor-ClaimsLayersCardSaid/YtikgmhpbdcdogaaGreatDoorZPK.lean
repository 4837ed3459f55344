/- Layers and worst parts, plain: sums over amounts. -/
import Derived.Test.YtikgmhpbdcdogaaGreatDoorZKL
import Derived.Test.YtikgmhpbdcdogaaGreatDoorZKN
import Derived.Test.YtikgmhpbdcdogaaGreatDoorZKR
namespace Go.Proofs.YtikgmhpbdcdogaaGreatDoor

/-- the sum of the first k -/
def sgR (f : Nat→Rat) : Nat→Rat
 | 0 => 0
 | k + 1 => sgR f k + f k
theorem sgR_congr (f g : Nat→Rat) : ∀ n,(∀ k,k < n→f k = g k)→sgR f n = sgR g n
 | 0,_ => rfl
 | n + 1,h => by
  show sgR f n + f n = sgR g n + g n
  rw [sgR_congr f g n (fun k hk => h k (by omega)),h n (by omega)]
theorem sgR_add (f g : Nat→Rat) : ∀ n,sgR (fun k => f k + g k) n = sgR f n + sgR g n
 | 0 => by
  show (0 : Rat) = 0 + 0
  grind
 | n + 1 => by
  show sgR _ n + (f n + g n) = sgR f n + f n + (sgR g n + g n)
  rw [sgR_add f g n]; grind
theorem sgR_zero : ∀ n,sgR (fun _ => 0) n = 0
 | 0 => rfl
 | n + 1 => by
  show sgR (fun _ => 0) n + 0 = 0
  rw [sgR_zero n]; grind
theorem sgR_one (i : Nat) (c : Nat→Rat) : ∀ n,sgR (fun t => if t = i then c t else 0) n = if i < n then c i else 0
 | 0 => rfl
 | n + 1 => by
  show sgR _ n + (if n = i then c n else 0) = _
  rw [sgR_one i c n]
  by_cases h : n = i
  ·subst h
   rw [if_neg (Nat.lt_irrefl _),if_pos rfl,if_pos (by omega)]; grind
  ·rw [if_neg h]
   by_cases h2 : i < n
   ·rw [if_pos h2,if_pos (by omega)]; grind
   ·rw [if_neg h2,if_neg (by omega)]; grind
theorem sgR_nonneg (f : Nat→Rat) : ∀ n,(∀ k,k < n→0 ≤ f k)→0 ≤ sgR f n
 | 0,_ => by
  show (0 : Rat) ≤ 0
  decide
 | n + 1,h => by
  have h1:=sgR_nonneg f n (fun k hk => h k (by omega))
  have h2:=h n (by omega)
  show 0 ≤ sgR f n + f n
  grind
theorem sgR_more (f : Nat→Rat) (m : Nat) : ∀ d,(∀ k,m ≤ k→f k = 0)→sgR f (m + d) = sgR f m
 | 0,_ => rfl
 | d + 1,h => by
  show sgR f (m + d) + f (m + d) = _
  rw [sgR_more f m d h,h _ (by omega)]; grind

/-- what is put together by where it goes -/
def layG (f : Nat→Rat) (u : Nat→Nat) : Nat→Nat→Rat
 | 0 => fun _ => 0
 | i + 1 => fun t => if t = u i then layG f u i (u i) + f i else layG f u i t
theorem layG_sum (f : Nat→Rat) (u : Nat→Nat) (g : Nat→Rat) (T : Nat) : ∀ i,(∀ j,j < i→u j < T)→sgR (fun t => layG f u i t * g t) T = sgR (fun j => f j * g (u j)) i
 | 0,_ => by
  show sgR (fun t => 0 * g t) T = 0
  rw [sgR_congr _ (fun _ => 0) T (fun k _ => by grind),sgR_zero]
 | i + 1,h => by
  have ih:=layG_sum f u g T i (fun j hj => h j (by omega))
  show _ = sgR _ i + f i * g (u i)
  rw [← ih]
  have e : sgR (fun t => layG f u (i + 1) t * g t) T = sgR (fun t => layG f u i t * g t + (if t = u i then f i * g t else 0)) T:=sgR_congr _ _ T (fun t _ => by
   show (if t = u i then layG f u i (u i) + f i else layG f u i t) * g t = _
   by_cases ht : t = u i
   ·subst ht
    rw [if_pos rfl,if_pos rfl]; grind
   ·rw [if_neg ht,if_neg ht]; grind)
  rw [e,sgR_add,sgR_one (u i) (fun t => f i * g t),if_pos (h i (by omega))]
theorem layG_nonneg (f : Nat→Rat) (u : Nat→Nat) : ∀ i,(∀ j,j < i→0 ≤ f j)→∀ t,0 ≤ layG f u i t
 | 0,_,_ => by
  show (0 : Rat) ≤ 0
  decide
 | i + 1,h,t => by
  have ih:=layG_nonneg f u i (fun j hj => h j (by omega))
  have h1:=h i (by omega)
  show 0 ≤ (if t = u i then layG f u i (u i) + f i else layG f u i t)
  split
  ·have:=ih (u i)
   grind
  ·exact ih t

/-- what is left, and what has come together, of the worst part, along a row of amounts -/
def wstp (f : Nat→Rat) (q : Rat × Rat) (t : Nat) : Rat × Rat :=
 (q.1 - (if f t ≤ q.1 then f t else q.1),q.2 + (if f t ≤ q.1 then f t else q.1) * ((t : Int) : Rat))
def wsf (f : Nat→Rat) (part : Rat) (l : List Nat) : Rat × Rat:=l.foldl (wstp f) (part,0)
theorem wsf_snoc (f : Nat→Rat) (part : Rat) (l : List Nat) (t : Nat) : wsf f part (l ++ [t]) = wstp f (wsf f part l) t:=by
 unfold wsf
 rw [List.foldl_append]; rfl
/-- amounts from n - 1 down to n - d -/
def dnL (n : Nat) : Nat→List Nat
 | 0 => []
 | d + 1 => dnL n d ++ [n - (d + 1)]
/-- what holds from the top down: S the chances from k on, B the means beyond k -/
structure Wst (part S B left sum c : Rat) : Prop where
 some : left = if S ≤ part then part - S else 0
 least : part * B ≤ sum - c * (part - left)
 whole : part = 1→sum - c * (part - left) = B
theorem wst_step (part S B left sum c x : Rat) (hp : 0 ≤ part) (hp1 : part ≤ 1) (hx : 0 ≤ x) (hS : 0 ≤ S) (hS1 : S + x ≤ 1) (h : Wst part S B left sum (c + 1)) :
  Wst part (S + x) (B + S) (left - (if x ≤ left then x else left)) (sum + (if x ≤ left then x else left) * c) c:=by
 obtain ⟨h1,h2,h3⟩:=h
 have hm : part * S ≤ part - left:=by
  rw [h1]
  split
  ·have : 0 ≤ S * (1 - part):=Rat.mul_nonneg hS (by grind)
   grind
  ·have : 0 ≤ part * (1 - S):=Rat.mul_nonneg hp (by grind)
   grind
 refine ⟨?_,?_,?_⟩
 ·by_cases hx1 : x ≤ left
  ·rw [if_pos hx1]
   by_cases hSp : S ≤ part
   ·rw [if_pos hSp] at h1
    rw [if_pos (by grind)]; grind
   ·rw [if_neg hSp] at h1
    by_cases h4 : S + x ≤ part
    ·grind
    ·rw [if_neg h4]; grind
  ·rw [if_neg hx1]
   by_cases hSp : S ≤ part
   ·rw [if_pos hSp] at h1
    rw [if_neg (by grind)]; grind
   ·rw [if_neg hSp] at h1
    rw [if_neg (by grind)]; grind
 ·generalize (if x ≤ left then x else left) = t at *
  have e : sum + t * c - c * (part - (left - t)) = (sum - (c + 1) * (part - left)) + (part - left):=by grind
  rw [e]
  have : part * (B + S) = part * B + part * S:=by grind
  grind
 ·intro h4
  have hl : part - left = S:=by
   rw [h1,if_pos (by grind)]; grind
  have h5:=h3 h4
  generalize (if x ≤ left then x else left) = t at *
  grind
/-- chances and means from n - d on -/
def upS (f : Nat→Rat) (n : Nat) : Nat→Rat
 | 0 => 0
 | d + 1 => upS f n d + f (n - (d + 1))
def upB (f : Nat→Rat) (n : Nat) : Nat→Rat
 | 0 => 0
 | d + 1 => upB f n d + upS f n d
theorem upS_nonneg (f : Nat→Rat) (n : Nat) (hf : ∀ k,k < n→0 ≤ f k) : ∀ d,d ≤ n→0 ≤ upS f n d
 | 0,_ => by
  show (0 : Rat) ≤ 0
  decide
 | d + 1,h => by
  have h1:=upS_nonneg f n hf d (by omega)
  have h2:=hf (n - (d + 1)) (by omega)
  show 0 ≤ upS f n d + f (n - (d + 1))
  grind
theorem upS_sg (f : Nat→Rat) (n : Nat) : ∀ d,d ≤ n→upS f n d + sgR f (n - d) = sgR f n
 | 0,_ => by
  show 0 + sgR f n = sgR f n
  grind
 | d + 1,h => by
  have ih:=upS_sg f n d (by omega)
  have e : n - d = (n - (d + 1)) + 1:=by omega
  rw [e] at ih
  have e2 : sgR f (n - (d + 1) + 1) = sgR f (n - (d + 1)) + f (n - (d + 1)):=rfl
  rw [e2] at ih
  show upS f n d + f (n - (d + 1)) + sgR f (n - (d + 1)) = sgR f n
  grind
theorem upB_mean (f : Nat→Rat) (n : Nat) : ∀ d,d ≤ n→upB f n d + (((n - d : Nat) : Int) : Rat) * upS f n d + sgR (fun k => f k * ((k : Int) : Rat)) (n - d) = sgR (fun k => f k * ((k : Int) : Rat)) n
 | 0,_ => by
  show 0 + (((n - 0 : Nat) : Int) : Rat) * 0 + sgR (fun k => f k * ((k : Int) : Rat)) n = _
  grind
 | d + 1,h => by
  have ih:=upB_mean f n d (by omega)
  have e : n - d = (n - (d + 1)) + 1:=by omega
  rw [e] at ih
  generalize n - (d + 1) = k at *
  have ek : (((k + 1 : Nat) : Int) : Rat) = ((k : Int) : Rat) + 1:=by
   rw [Int.natCast_add,Rat.intCast_add]; rfl
  rw [ek] at ih
  have e2 : sgR (fun k => f k * ((k : Int) : Rat)) (k + 1) = sgR (fun k => f k * ((k : Int) : Rat)) k + f k * ((k : Int) : Rat):=rfl
  rw [e2] at ih
  have e3 : upB f n (d + 1) = upB f n d + upS f n d:=rfl
  have e4 : upS f n (d + 1) = upS f n d + f (n - (d + 1)):=rfl
  have e5 : n - (d + 1) = k:=by omega
  rw [e3,e4,e5]
  generalize ((k : Int) : Rat) = c at *
  generalize sgR _ k = u at *
  grind
theorem wst_all (f : Nat→Rat) (n : Nat) (part : Rat) (hp : 0 ≤ part) (hp1 : part ≤ 1) (hf : ∀ k,k < n→0 ≤ f k) (h1 : sgR f n = 1) :
  ∀ d,d ≤ n→Wst part (upS f n d) (upB f n d) (wsf f part (dnL n d)).1 (wsf f part (dnL n d)).2 (((n - d : Nat) : Int) : Rat)
 | 0,_ => by
  refine ⟨?_,?_,?_⟩
  ·show part = if (0 : Rat) ≤ part then part - 0 else 0
   rw [if_pos hp]; grind
  ·show part * 0 ≤ 0 - (((n - 0 : Nat) : Int) : Rat) * (part - part)
   grind
  ·intro _
   show 0 - (((n - 0 : Nat) : Int) : Rat) * (part - part) = 0
   grind
 | d + 1,h => by
  have ih:=wst_all f n part hp hp1 hf h1 d (by omega)
  have e : n - d = (n - (d + 1)) + 1:=by omega
  rw [e] at ih
  have ek : (((n - (d + 1) + 1 : Nat) : Int) : Rat) = ((n - (d + 1) : Nat) : Int) + 1:=by
   rw [Int.natCast_add,Rat.intCast_add]; rfl
  rw [ek] at ih
  have hs:=upS_sg f n (d + 1) (by omega)
  have h2:=sgR_nonneg f (n - (d + 1)) (fun k hk => hf k (by omega))
  have e4 : upS f n (d + 1) = upS f n d + f (n - (d + 1)):=rfl
  have:=wst_step part _ _ _ _ (((n - (d + 1) : Nat) : Int) : Rat) (f (n - (d + 1))) hp hp1 (hf _ (by omega)) (upS_nonneg f n hf d (by omega)) (by rw [← e4]; grind) ih
  rw [show dnL n (d + 1) = dnL n d ++ [n - (d + 1)] from rfl,wsf_snoc]
  exact this
/-- the worst part is at least the mean of all; and the mean, where it is all -/
theorem worst_mean (f : Nat→Rat) (n : Nat) (part : Rat) (hp : 0 ≤ part) (hp1 : part ≤ 1) (hf : ∀ k,k < n→0 ≤ f k) (h1 : sgR f n = 1) :
  part * sgR (fun k => f k * ((k : Int) : Rat)) n ≤ (wsf f part (dnL n n)).2∧(part = 1→(wsf f part (dnL n n)).2 = sgR (fun k => f k * ((k : Int) : Rat)) n):=by
 have h:=wst_all f n part hp hp1 hf h1 n (Nat.le_refl _)
 have hb:=upB_mean f n n (Nat.le_refl _)
 rw [Nat.sub_self] at hb h
 have e : upB f n n = sgR (fun k => f k * ((k : Int) : Rat)) n:=by
  have e0 : sgR (fun k => f k * ((k : Int) : Rat)) 0 = 0:=rfl
  rw [e0] at hb
  have ez : (((0 : Nat) : Int) : Rat) = 0:=rfl
  rw [ez] at hb
  grind
 obtain ⟨-,h2,h3⟩:=h
 have ez : (((0 : Nat) : Int) : Rat) = 0:=rfl
 rw [ez] at h2 h3
 rw [e] at h2 h3
 refine ⟨by grind,fun h4 => ?_⟩
 have:=h3 h4
 grind
theorem wsf_up (f : Nat→Rat) (part : Rat) (hp : 0 ≤ part) : ∀ l,(∀ t ∈ l,0 ≤ f t)→0 ≤ (wsf f part l).1∧∀ l',(∀ t ∈ l',0 ≤ f t)→(wsf f part l).2 ≤ (wsf f part (l ++ l')).2:=by
 have base : ∀ (l : List Nat) (q : Rat × Rat),0 ≤ q.1→(∀ t ∈ l,0 ≤ f t)→0 ≤ (l.foldl (wstp f) q).1∧q.2 ≤ (l.foldl (wstp f) q).2:=by
  intro l
  induction l with
  | nil => exact fun q hq _ => ⟨hq,Rat.le_refl⟩
  | cons t l ih =>
   intro q hq hf
   have ht:=hf t (by simp)
   have hc : (0 : Rat) ≤ ((t : Int) : Rat):=by
    rw [← Rat.intCast_zero]; exact Rat.intCast_le_intCast.2 (by omega)
   have htk : 0 ≤ (if f t ≤ q.1 then f t else q.1):=by split <;> assumption
   have hlk : (if f t ≤ q.1 then f t else q.1) ≤ q.1:=by split <;> grind
   have hmul:=Rat.mul_nonneg htk hc
   have h1 : 0 ≤ (wstp f q t).1:=by
    show 0 ≤ q.1 - _
    grind
   have h2 : q.2 ≤ (wstp f q t).2:=by
    show q.2 ≤ q.2 + _
    grind
   have:=ih (wstp f q t) h1 (fun s hs => hf s (by simp [hs]))
   exact ⟨this.1,Rat.le_trans h2 this.2⟩
 intro l hl
 refine ⟨(base l (part,0) hp hl).1,fun l' hl' => ?_⟩
 unfold wsf
 rw [List.foldl_append]
 exact (base l' _ (base l (part,0) hp hl).1 hl').2
theorem dnL_mem (n : Nat) : ∀ d,d ≤ n→∀ t ∈ dnL n d,n - d ≤ t∧t < n
 | 0,_,t,h => by
  have : t ∈ ([] : List Nat):=h
  simp at this
 | d + 1,hd,t,h => by
  rcases List.mem_append.1 (show t ∈ dnL n d ++ [n - (d + 1)] from h) with h1 | h1
  ·have:=dnL_mem n d (by omega) t h1
   omega
  ·simp at h1
   omega
theorem dnL_split (n : Nat) (d : Nat) : ∀ e,∃ l,dnL n (d + e) = dnL n d ++ l∧∀ t ∈ l,∃ j,t = n - (d + j + 1)
 | 0 => ⟨[],by simp,by simp⟩
 | e + 1 => by
  obtain ⟨l,h1,h2⟩:=dnL_split n d e
  refine ⟨l ++ [n - (d + e + 1)],?_,?_⟩
  ·show dnL n (d + e) ++ [n - (d + e + 1)] = _
   rw [h1,List.append_assoc]
  ·intro t ht
   rcases List.mem_append.1 ht with h | h
   ·exact h2 t h
   ·simp at h
    exact ⟨e,h⟩
/-- the worst part is at least the amount that is not gone beyond with so much of chance -/
theorem worst_least (f : Nat→Rat) (n : Nat) (ch : Rat) (h0 : 0 ≤ ch) (hc1 : ch < 1) (hf : ∀ k,k < n→0 ≤ f k) (h1 : sgR f n = 1) (q : Nat) (hq : q < n) (hlt : sgR f q < ch) :
  ((q : Int) : Rat) * (1 - ch) ≤ (wsf f (1 - ch) (dnL n n)).2:=by
 have hp : 0 ≤ 1 - ch:=by grind
 have h:=wst_all f n (1 - ch) hp (by grind) hf h1 (n - q) (by omega)
 have hs:=upS_sg f n (n - q) (by omega)
 rw [show n - (n - q) = q from by omega] at h hs
 obtain ⟨h2,h3,-⟩:=h
 rw [if_neg (by grind)] at h2
 rw [h2] at h3
 have hB : ∀ d,d ≤ n→0 ≤ upB f n d:=by
  intro d
  induction d with
  | zero =>
   intro _
   show (0 : Rat) ≤ 0
   decide
  | succ d ih =>
   intro hd
   have a1:=ih (by omega)
   have a2:=upS_nonneg f n hf d (by omega)
   show 0 ≤ upB f n d + upS f n d
   grind
 have hm:=Rat.mul_nonneg hp (hB (n - q) (by omega))
 obtain ⟨l,e1,e2⟩:=dnL_split n (n - q) q
 rw [show n - q + q = n from by omega] at e1
 have hup:=(wsf_up f (1 - ch) hp (dnL n (n - q)) (fun t ht => hf t (dnL_mem n _ (by omega) t ht).2)).2 l (fun t ht => by
  obtain ⟨j,rfl⟩:=e2 t ht
  exact hf _ (by omega))
 rw [← e1] at hup
 grind
end Go.Proofs.YtikgmhpbdcdogaaGreatDoor

namespace Go.Proofs.YtikgmhpbdcdogaaGreatDoor
open Go.RowKit Go.Shelf
attribute [local go_sem] Oper.semAt_some

theorem calm_grownL {A B : World} {row : Option Nat} (hg : A.grownBy B row) (hr : ∀ r,row = some r→∃ o : Obj,A.heap[r]? = some o∧o.isCells = false) : Calm A B :=
 ⟨hg.size,fun k i v h => by
  obtain ⟨o,ho,hc⟩:=cells_of_cell h
  exact grownBy_keeps_cells hg hr ho hc⟩
theorem keepsS_of_but {W V : World} {l gs : List Nat} (hb : But l W V) (hc : ∀ g ∈ l,∃ v,W.cell? ⟨g,0,none⟩ = some v) (B n₀ : Nat) (hn : n₀ ≤ W.heap.size) (hl : ∀ g ∈ l,g ∈ gs ∨ n₀ ≤ g) : KeepsFrom B W V∧KeptS n₀ gs W V :=
 ⟨⟨hb.size,fun k o _ hk ho => by
  have hne : k ∉ l:=by
   intro hkl
   obtain ⟨v,hv⟩:=hc k hkl
   obtain ⟨o',ho',hc'⟩:=cells_of_cell hv
   rw [hk] at ho'
   obtain rfl:=Option.some.inj ho'
   rw [ho] at hc'
   simp at hc'
  exact (hb.block k (Array.getElem?_eq_some_iff.1 hk).1 hne).trans hk⟩,fun k hk hne => hb.block k (by omega) (fun h => (hl k h).elim hne (fun h => by omega))⟩
/-- what holds between two rounds -/
structure WorstI (w W0 : World) (g4 g7 g8 g9 : Nat) (S : Nat→Bool) (X Y : Nat→Int) (Q : Nat→Option Addr) (fs : List Rat) (part left sum : Rat) (W : World) : Prop where
 b8 : BoxAt W g8 left
 b9 : BoxAt W g9 sum
 b7 : BoxAt W g7 part
 b4 : BoxAt W g4 0
 all : ∀ t,t < fs.length→FracAt W (.agg #[.bool (S t),.int .u64 (X t),.int .u64 (Y t),.pointer (Q t)]) (fs[t]?.getD 0)
 size : W0.heap.size ≤ W.heap.size
 below : Below w.heap.size w W
theorem WorstI.but {w W0 : World} {g4 g7 g8 g9 : Nat} {S : Nat→Bool} {X Y : Nat→Int} {Q : Nat→Option Addr} {fs : List Rat} {part left sum : Rat} {W V : World} (h : WorstI w W0 g4 g7 g8 g9 S X Y Q fs part left sum W) (hb : But [] W V) : WorstI w W0 g4 g7 g8 g9 S X Y Q fs part left sum V :=
 ⟨h.b8.but hb,h.b9.but hb,h.b7.but hb,h.b4.but hb,fun t ht => (h.all t ht).but hb,Nat.le_trans h.size hb.size,((But.of_below h.below).trans' hb).below⟩
theorem WorstI.calm {w W0 : World} {g4 g7 g8 g9 : Nat} {S : Nat→Bool} {X Y : Nat→Int} {Q : Nat→Option Addr} {fs : List Rat} {part left sum : Rat} {W V : World} (h : WorstI w W0 g4 g7 g8 g9 S X Y Q fs part left sum W) (hc : Calm W V) (hb : Below w.heap.size w V) : WorstI w W0 g4 g7 g8 g9 S X Y Q fs part left sum V :=
 ⟨h.b8.calm hc,h.b9.calm hc,h.b7.calm hc,h.b4.calm hc,fun t ht => (h.all t ht).calm hc,Nat.le_trans h.size hc.size,hb⟩
theorem WorstI.put8 {w W0 : World} {g4 g7 g8 g9 : Nat} {S : Nat→Bool} {X Y : Nat→Int} {Q : Nat→Option Addr} {fs : List Rat} {part left sum left' : Rat} {W : World} (h : WorstI w W0 g4 g7 g8 g9 S X Y Q fs part left sum W) (o : w.heap.size ≤ g4∧g4 < g7∧g7 < g8∧g8 < g9) {s : Bool} {x y : Int} {p : Option Addr} (hf : FracAt W (.agg #[.bool s,.int .u64 x,.int .u64 y,.pointer p]) left') : WorstI w W0 g4 g7 g8 g9 S X Y Q fs part left' sum (put4 W g8 s x y p):=by
 have hP:=put4_but W g8 s x y p
 obtain ⟨c,hc⟩:=h.b8.bool
 have hcs : ∀ g ∈ [g8],∃ s,W.cell? ⟨g,0,none⟩ = some (.bool s):=fun g hg => by simp at hg; subst hg; exact ⟨c,hc⟩
 exact ⟨h.b8.put hf,h.b9.beside hP (by simp; omega) hcs,h.b7.beside hP (by simp; omega) hcs,h.b4.beside hP (by simp; omega) hcs,fun t ht => (h.all t ht).over hc hP,Nat.le_trans h.size hP.size,((But.of_below h.below).trans hP (fun x hx => by simp at hx; subst hx; exact .inr (by omega))).below⟩
theorem WorstI.put9 {w W0 : World} {g4 g7 g8 g9 : Nat} {S : Nat→Bool} {X Y : Nat→Int} {Q : Nat→Option Addr} {fs : List Rat} {part left sum sum' : Rat} {W : World} (h : WorstI w W0 g4 g7 g8 g9 S X Y Q fs part left sum W) (o : w.heap.size ≤ g4∧g4 < g7∧g7 < g8∧g8 < g9) {s : Bool} {x y : Int} {p : Option Addr} (hf : FracAt W (.agg #[.bool s,.int .u64 x,.int .u64 y,.pointer p]) sum') : WorstI w W0 g4 g7 g8 g9 S X Y Q fs part left sum' (put4 W g9 s x y p):=by
 have hP:=put4_but W g9 s x y p
 obtain ⟨c,hc⟩:=h.b9.bool
 have hcs : ∀ g ∈ [g9],∃ s,W.cell? ⟨g,0,none⟩ = some (.bool s):=fun g hg => by simp at hg; subst hg; exact ⟨c,hc⟩
 exact ⟨h.b8.beside hP (by simp; omega) hcs,h.b9.put hf,h.b7.beside hP (by simp; omega) hcs,h.b4.beside hP (by simp; omega) hcs,fun t ht => (h.all t ht).over hc hP,Nat.le_trans h.size hP.size,((But.of_below h.below).trans hP (fun x hx => by simp at hx; subst hx; exact .inr (by omega))).below⟩
theorem WorstI.putX {w W0 : World} {g4 g7 g8 g9 : Nat} {S : Nat→Bool} {X Y : Nat→Int} {Q : Nat→Option Addr} {fs : List Rat} {part left sum : Rat} {W : World} (h : WorstI w W0 g4 g7 g8 g9 S X Y Q fs part left sum W) (o : w.heap.size ≤ g4∧g4 < g7∧g7 < g8∧g8 < g9) {gx : Nat} (hx : g9 < gx) {f : Rat} (hbx : BoxAt W gx f) (s : Bool) (x y : Int) (p : Option Addr) : WorstI w W0 g4 g7 g8 g9 S X Y Q fs part left sum (put4 W gx s x y p):=by
 have hP:=put4_but W gx s x y p
 obtain ⟨c,hc⟩:=hbx.bool
 have hcs : ∀ g ∈ [gx],∃ s,W.cell? ⟨g,0,none⟩ = some (.bool s):=fun g hg => by simp at hg; subst hg; exact ⟨c,hc⟩
 exact ⟨h.b8.beside hP (by simp; omega) hcs,h.b9.beside hP (by simp; omega) hcs,h.b7.beside hP (by simp; omega) hcs,h.b4.beside hP (by simp; omega) hcs,fun t ht => (h.all t ht).over hc hP,Nat.le_trans h.size hP.size,((But.of_below h.below).trans hP (fun x hx => by simp at hx; subst hx; exact .inr (by omega))).below⟩
theorem len_wfold (f : Nat→Rat) (c : Nat) : ∀ (l : List Nat) (q : Rat × Rat) (a s : Nat),Len q.1 a→Len q.2 s→(∀ t ∈ l,Len (f t) c∧t < 1000000)→Len (l.foldl (wstp f) q).1 (a + l.length * (c + 1))∧Len (l.foldl (wstp f) q).2 (s + l.length * (a + l.length * (c + 1) + c + 3))
 | [],q,a,s,h1,h2,_ => ⟨h1.mono (by omega),h2.mono (by omega)⟩
 | t :: l,q,a,s,h1,h2,h => by
  obtain ⟨hf,ht⟩:=h t (by simp)
  have lint : Len ((((t : Nat) : Int)) : Rat) 1:=len_int _ (by omega)
  have l1 : Len (wstp f q t).1 (a + c + 1):=by
   show Len (q.1 - (if f t ≤ q.1 then f t else q.1)) _
   by_cases hle : f t ≤ q.1
   ·rw [if_pos hle]; exact len_sub h1 hf _ (by omega)
   ·rw [if_neg hle,Rat.sub_self]; exact len_zero _ (by omega)
  have l0 : Len (if f t ≤ q.1 then f t else q.1) (a + c):=by
   by_cases hle : f t ≤ q.1
   ·rw [if_pos hle]; exact hf.mono (by omega)
   ·rw [if_neg hle]; exact h1.mono (by omega)
  have l2 : Len (wstp f q t).2 (s + a + c + 2):=by
   show Len (q.2 + (if f t ≤ q.1 then f t else q.1) * ((t : Int) : Rat)) _
   exact len_add h2 (len_mul l0 lint (a + c + 1) (by omega)) _ (by omega)
  have ih:=len_wfold f c l (wstp f q t) (a + c + 1) (s + a + c + 2) l1 l2 (fun u hu => h u (by simp [hu]))
  have e0 : (t :: l).length = l.length + 1:=rfl
  have e1 : (l.length + 1) * (c + 1) = l.length * (c + 1) + (c + 1):=Nat.succ_mul _ _
  rw [e0]
  refine ⟨ih.1.mono (by omega),ih.2.mono ?_⟩
  rw [e1]
  have e2 : a + c + 1 + l.length * (c + 1) + c + 3 = a + (l.length * (c + 1) + (c + 1)) + c + 3:=by omega
  rw [e2,Nat.succ_mul]
  generalize l.length * (a + (l.length * (c + 1) + (c + 1)) + c + 3) = z
  omega
theorem len_wsf (f : Nat→Rat) (part : Rat) (c d : Nat) (hp : Len part d) (l : List Nat) (h : ∀ t ∈ l,Len (f t) c∧t < 1000000) : Len (wsf f part l).1 (l.length * (c + 1) + d + 1)∧Len (wsf f part l).2 (l.length * (l.length * (c + 1) + d + c + 3) + 1):=by
 have h1:=len_wfold f c l (part,0) d 1 hp (len_zero _ (by omega)) h
 unfold wsf
 refine ⟨h1.1.mono (by omega),h1.2.mono ?_⟩
 rw [show d + l.length * (c + 1) + c + 3 = l.length * (c + 1) + d + c + 3 from by omega]
 omega
set_option maxRecDepth 100000 in
set_option maxHeartbeats 16000000 in
theorem lawWorst_ok (b off cap n : Nat) (fs : List Rat) (c : Nat) (vch : Value) (ch : Rat) (w : World) (hv : FracsAt w (.slice (some ⟨b,off,none⟩) n cap) fs) (hN : n = fs.length) (hck : chkE fs = 0) (hch : FracAt w vch ch) (lf : ∀ f ∈ fs,Len f c) (hc : c ≤ 3) (lch : Len ch 3) :
  Calls Tryz.prog 20 #[.slice (some ⟨b,off,none⟩) n cap,vch] w fun e w' => But [] w w'∧((¬ (0 ≤ ch∧ch < 1)∧e = .returned (.tuple #[.agg #[.bool false,.int .u64 0,.int .u64 0,.pointer none],.iface 54 (.int .i64 2)])) ∨ ((0 ≤ ch∧ch < 1)∧∃ s x y p,e = .returned (.tuple #[.agg #[.bool s,.int .u64 x,.int .u64 y,.pointer p],.nilIface])∧FracAt w' (.agg #[.bool s,.int .u64 x,.int .u64 y,.pointer p]) ((wsf (fun t => fs[t]?.getD 0) (((1 : Int) : Rat) - ch) ((downsL fs.length 0).map (·.1))).2 / (((1 : Int) : Rat) - ch)))):=by
 subst hN
 obtain ⟨hn0,hn1,hpos,hone⟩:=chk_some hck
 obtain ⟨S,X,Y,Q,hV⟩ : ∃ (S : Nat→Bool) (X Y : Nat→Int) (Q : Nat→Option Addr),∀ t,t < fs.length→P4o w b (off + t * 4) (S t) (X t) (Y t) (Q t)∧FracAt w (.agg #[.bool (S t),.int .u64 (X t),.int .u64 (Y t),.pointer (Q t)]) (fs[t]?.getD 0):=by
  have h : ∀ t,∃ q : Bool × Int × Int × Option Addr,t < fs.length→P4o w b (off + t * 4) q.1 q.2.1 q.2.2.1 q.2.2.2∧FracAt w (.agg #[.bool q.1,.int .u64 q.2.1,.int .u64 q.2.2.1,.pointer q.2.2.2]) (fs[t]?.getD 0):=fun t => by
   by_cases ht : t < fs.length
   ·obtain ⟨s,x,y,p,h1,h2⟩:=hv.get t (by omega)
    exact ⟨(s,x,y,p),fun _ => ⟨h1,h2⟩⟩
   ·exact ⟨(false,0,0,none),fun h => absurd h ht⟩
  obtain ⟨q,hq⟩:=Classical.axiomOfChoice h
  exact ⟨fun t => (q t).1,fun t => (q t).2.1,fun t => (q t).2.2.1,fun t => (q t).2.2.2,hq⟩
 have CH:=hide (fun W (h : But [] w W) => lawCheck_any _ fs c W (hv.but h) (by omega) lf (by omega))
 rw [hck] at CH
 have BE:=hide (fun W (h : But [] w W) => below1_any vch ch W (hch.but h) (lch.mono (by omega)))
 obtain ⟨x1,y1,p1,rfl,-⟩:=hch.agg
 generalize hsf : decide (ch.num < 0) = s1 at *
 clear hsf
 obtain ⟨W1,hW1⟩ : ∃ W1,W1 = (w.alloc (.cells #[.bool s1,.int .u64 x1,.int .u64 y1,.pointer p1] 29)).alloc (.cells #[.bool false,.int .u64 0,.int .u64 0,.pointer none] 29):=⟨_,rfl⟩
 have x3 : BoxAt W1 w.heap.size ch:=by rw [hW1]; exact (BoxAt.new w s1 x1 y1 p1 ch 29 hch).but ((But.refl _ _).alloc _)
 have c3 : P4 W1 w.heap.size s1 x1 y1 p1:=by rw [hW1]; exact ⟨((But.refl [] _).alloc _).cell_some (by simp) (by simp),((But.refl [] _).alloc _).cell_some (by simp) (by simp),((But.refl [] _).alloc _).cell_some (by simp) (by simp),((But.refl [] _).alloc _).cell_some (by simp) (by simp)⟩
 have x4 : BoxAt W1 (w.heap.size + 1) 0:=by
  rw [hW1]
  have h:=BoxAt.new (w.alloc (.cells #[.bool s1,.int .u64 x1,.int .u64 y1,.pointer p1] 29)) false 0 0 none 0 29 (zero_at _)
  rw [show (w.alloc (.cells #[.bool s1,.int .u64 x1,.int .u64 y1,.pointer p1] 29)).heap.size = w.heap.size + 1 from by simp] at h
  exact h
 have bW : But [] w W1:=by rw [hW1]; exact ((But.refl _ _).alloc _).alloc _
 have X4:=hide x4
 have C3:=hide c3
 have BW:=hide bW
 have HV:=hide hV
 have HCH:=hide hch
 clear x3 c3 x4 bW hV hch hv
 refine (callsIn_wide (n:=4)).1 ?_
 refine callsIn_of_wp_marks Tryz.func20 rfl trivial ?_ rfl
 simp only [Tryz.ntmps20,List.size_toArray,List.length_cons,List.length_nil,Nat.reduceAdd,Nat.reduceSub,Array.replicate_succ,Array.replicate_zero,List.push_toArray,List.append_toArray,List.nil_append,List.cons_append]
 gi_wp2_with fail
 rw [← hW1]
 clear hW1
 refine ⟨trivial,(callsIn_wide.2 (unhide CH _ (unhide BW))).mono ?_⟩
 rintro e w1 ⟨rfl,hb1⟩
 have B1:=hide ((unhide BW).trans' hb1)
 have X41:=hide ((unhide X4).but hb1)
 have C31:=hide ((unhide C3).but hb1 (by simp))
 obtain ⟨c0,c1,c2,c3⟩:=(unhide C3).but hb1 (by simp)
 clear hb1 CH X4 BW C3
 generalize hg4 : w.heap.size + 1 = g4 at *
 generalize hg3 : w.heap.size = g3 at *
 rw [show errV 0 = .nilIface from rfl]
 gi_wp2_with fail
 refine ⟨trivial,(callsIn_wide.2 (unhide BE _ (unhide B1))).mono ?_⟩
 rintro e w2 ⟨rfl,hb2⟩
 have B2:=hide ((unhide B1).trans' hb2)
 have X42:=hide ((unhide X41).but hb2)
 have C32:=hide ((unhide C31).but hb2 (by simp))
 clear hb2 BE X41 B1 C31 c0 c1 c2 c3
 by_cases hb : 0 ≤ ch∧ch < 1
 ·rw [decide_eq_true hb]
  gi_wp2
  obtain ⟨ws,wx,FW,CW⟩:=whole_is 1 (by omega) (by omega)
  refine wpIn_wide.2 (worst_region6 6 _ _ w2 w2.heap.size s1 x1 y1 p1 ws wx ch (by simp) g3 (Nat.le_refl _) (by simp [Act.eval]) (unhide C32) CW (fun w' hb => fracSub_any _ _ ((1 : Int) : Rat) ch w' (FW w') ((unhide HCH).but ((unhide B2).trans' hb)) ((len_int 1 (by decide)).mono (by omega)) (lch.mono (by omega))) ?_)
  intro w3 g7 s7 x7 y7 p7 hb3 hg7 hP7 hz7 hf7
  simp only [putted,List.foldl_cons,List.foldl_nil,Act.put,List.setIfInBounds_toArray,List.set_cons_zero,List.set_cons_succ]
  have hP:=put4_but w3 g7 s7 x7 y7 p7
  have x7' : BoxAt (put4 w3 g7 s7 x7 y7 p7) g7 (((1 : Int) : Rat) - ch):=BoxAt.put (f:=0) ⟨⟨false,0,0,none,hP7,zero_at _⟩,hz7⟩ hf7
  have hl4 : g4 < w2.heap.size:=(unhide X42).lt
  have x4' : BoxAt (put4 w3 g7 s7 x7 y7 p7) g4 0:=((unhide X42).but hb3).beside hP (by simp; omega) (fun g hg => by simp at hg; subst hg; exact ⟨_,hP7.1⟩)
  have bN : But [] w (put4 w3 g7 s7 x7 y7 p7):=((unhide B2).trans' hb3).trans hP (fun x hx => by simp at hx; subst hx; exact .inr (by have:=(unhide B2).size; omega))
  have m7 : P4 (put4 w3 g7 s7 x7 y7 p7) g7 s7 x7 y7 p7:=put4_p4 w3 g7 s7 x7 y7 p7 hP7
  have hf7':=hf7.over hP7.1 hP
  have n47 : g4 < g7:=by omega
  have o4 : w.heap.size ≤ g4:=by omega
  generalize put4 w3 g7 s7 x7 y7 p7 = V at *
  have l7 : g7 < V.heap.size:=x7'.lt
  have X7:=hide x7'
  have X4':=hide x4'
  have BN:=hide bN
  have HF7:=hide hf7'
  obtain ⟨d0,d1,d2,d3⟩:=m7
  clear x7' x4' bN hP hb3 hg7 hP7 hz7 hf7 hf7' X42 B2 hl4 C32 CW FW
  gi_wp2_with (refine ⟨trivial,?_⟩; gi_at_call 58; refine (back_inL Fence.wide _ trivial rfl _ _ _ _).mono ?_; rintro e w' ⟨rfl,rfl⟩)
  have e8:=(BoxAt.new V s7 x7 y7 p7 _ 29 (unhide HF7))
  obtain ⟨W0,hW0⟩ : ∃ W0,((V.alloc (.cells #[.bool s7,.int .u64 x7,.int .u64 y7,.pointer p7] 29)).alloc (.cells #[.bool false,.int .u64 0,.int .u64 0,.pointer none] 29)).alloc (.cells #[.slice (some ⟨b,off,none⟩) fs.length cap] 38) = W0:=⟨_,rfl⟩
  have hz : W0.heap.size = V.heap.size + 1 + 1 + 1:=by rw [← hW0]; simp
  have b8 : BoxAt W0 V.heap.size (((1 : Int) : Rat) - ch):=by rw [← hW0]; exact (e8.but ((But.refl _ _).alloc _)).but ((But.refl _ _).alloc _)
  have b9 : BoxAt W0 (V.heap.size + 1) 0:=by
   rw [← hW0]
   have h:=(BoxAt.new (V.alloc (.cells #[.bool s7,.int .u64 x7,.int .u64 y7,.pointer p7] 29)) false 0 0 none 0 29 (zero_at _)).but ((But.refl _ _).alloc (.cells #[.slice (some ⟨b,off,none⟩) fs.length cap] 38))
   simp only [World.size_alloc] at h
   exact h
  have cB : W0.cell? ⟨V.heap.size + 1 + 1,0,none⟩ = some (.slice (some ⟨b,off,none⟩) fs.length cap):=by
   rw [← hW0]
   have n2 : (((V.alloc (.cells #[.bool s7,.int .u64 x7,.int .u64 y7,.pointer p7] 29)).alloc (.cells #[.bool false,.int .u64 0,.int .u64 0,.pointer none] 29)).alloc (.cells #[.slice (some ⟨b,off,none⟩) fs.length cap] 38)).cell? ⟨((V.alloc (.cells #[.bool s7,.int .u64 x7,.int .u64 y7,.pointer p7] 29)).alloc (.cells #[.bool false,.int .u64 0,.int .u64 0,.pointer none] 29)).heap.size,0,none⟩ = some (.slice (some ⟨b,off,none⟩) fs.length cap):=by rw [World.cell?_alloc_new]; rfl
   rw [World.size_alloc,World.size_alloc] at n2
   exact n2
  have hBV : But [] V W0:=by rw [← hW0]; exact (((But.refl _ _).alloc _).alloc _).alloc _
  rw [hW0]
  clear hW0 e8
  have hB0 : But [] w W0:=(unhide BN).trans' hBV
  have b7:=(unhide X7).but hBV
  have b4:=(unhide X4').but hBV
  obtain ⟨g8,hg8⟩ : ∃ g8,g8 = V.heap.size:=⟨_,rfl⟩
  obtain ⟨g9,hg9⟩ : ∃ g9,g9 = V.heap.size + 1:=⟨_,rfl⟩
  obtain ⟨gB,hgB⟩ : ∃ gB,gB = V.heap.size + 1 + 1:=⟨_,rfl⟩
  rw [← hgB] at cB
  rw [← hg9] at b9
  rw [← hg8] at b8
  rw [← hgB,← hg9,← hg8]
  have hbw : b < w.heap.size:=lt_of_cell (unhide HV 0 hn0).1.1
  have n78 : g7 < g8:=by omega
  have n89 : g8 < g9:=by omega
  have oB : g9 < gB:=by omega
  have oW : gB < W0.heap.size:=by omega
  have hord : w.heap.size ≤ g4∧g4 < g7∧g7 < g8∧g8 < g9:=⟨o4,n47,n78,n89⟩
  have hlw:=fun t (ht : t < fs.length) => show Len (fs[t]?.getD 0) c by rw [List.getElem?_eq_getElem ht]; exact lf _ (List.getElem_mem ht)
  have HLW:=hide hlw
  have HORD:=hide hord
  have hpart : ((1 : Int) : Rat) - ch ≠ 0:=by
   have h1 : ((1 : Int) : Rat) = 1:=rfl
   rw [h1]; grind
  have lpart : Len (((1 : Int) : Rat) - ch) 5:=len_sub (len_int 1 (by decide)) lch 5 (by omega)
  have HPT:=hide hpart
  have LPT:=hide lpart
  clear hg8 hg9 hgB hz hlw d0 d1 d2 d3 hord hpart lpart
  generalize hpt : ((1 : Int) : Rat) - ch = part at *
  have HPE:=hide hpt
  clear hpt
  refine wpIn_rangeFunc_ownH rfl (by omega) (gf:=100) (lb:=#[.pointer (some ⟨gB,0,none⟩)]) rfl trivial (enters_of Tryz.func100 (by kernel_rfl) rfl)
   (back_stopsL Fence.wide _ trivial rfl (by omega) gB W0.heap.size [g8,g9] b off fs.length cap S X Y Q (by omega) W0 (by omega) (by simp; omega) (Nat.le_refl _) cB (by omega) (by simp; omega) (fun j hj => (unhide HV j hj).1.but hB0 (by simp)))
   (fun h k => KeptS.trans h k) (fun W l o o' hl _ _ _ => KeptS.put W l o' hl) (Below.refl _ _) (fun _ => rfl)
   (fun (pre : List (Fin fs.length)) W => WorstI w W0 g4 g7 g8 g9 S X Y Q fs part (wsf (fun t => fs[t]?.getD 0) part (pre.map (fun z : Fin fs.length => z.1))).1 (wsf (fun t => fs[t]?.getD 0) part (pre.map (fun z : Fin fs.length => z.1))).2 W)
   (fun _ _ _ => False)
   (fun pre A B row hi hg hr => hi.calm (calm_grownL hg (fun r e => (hr r e).2)) (ownFrom_below (β:=Unit) (Nat.le_refl _) (by omega) () A B row hi.below hg hr))
   (fun _ _ _ _ _ h _ _ => h)
   ⟨b8,b9,b7,b4,fun t ht => (unhide HV t ht).2.but hB0,Nat.le_refl _,hB0.below⟩
   (fun x a' W => ∃ Bx,W0.heap.size ≤ Bx∧BoxAt W Bx (fs[x.1]?.getD 0)∧a' = { tmps:=#[.slice (some ⟨b,off,none⟩) fs.length cap,.agg #[.bool s1,.int .u64 x1,.int .u64 y1,.pointer p1],undef,.pointer (some ⟨g3,0,none⟩),.pointer (some ⟨g4,0,none⟩),.nilIface,.nilIface,.pointer (some ⟨g7,0,none⟩),.pointer (some ⟨g8,0,none⟩),.pointer (some ⟨g9,0,none⟩),.int .i64 ((x.1 : Nat) : Int),.pointer (some ⟨Bx,0,none⟩),.slice (some ⟨b,off,none⟩) fs.length cap,.nilIface,.nilIface,.bool false,undef,undef,.agg #[.bool s1,.int .u64 x1,.int .u64 y1,.pointer p1],.bool true,.bool false,undef,undef,.agg #[.bool ws,.int .u64 wx,.int .u64 0,.pointer none],.agg #[.bool s1,.int .u64 x1,.int .u64 y1,.pointer p1],.agg #[.bool s7,.int .u64 x7,.int .u64 y7,.pointer p7],.agg #[.bool s7,.int .u64 x7,.int .u64 y7,.pointer p7],.slice (some ⟨b,off,none⟩) fs.length cap,.func (.func 100) #[] #[.pointer (some ⟨gB,0,none⟩)],.int .i64 ((x.1 : Nat) : Int),.agg #[.bool (S x.1),.int .u64 (X x.1),.int .u64 (Y x.1),.pointer (Q x.1)],undef,undef,undef,undef,undef,undef,undef,undef,undef,undef,undef,undef,undef,undef,undef,undef,undef],defers:=[] })
   (fun x a' _ A B row ⟨Bx,h0,h1,e⟩ hg hr => ⟨Bx,h0,h1.calm (calm_grownL hg (fun r e => (hr r e).2)),e⟩) ?assign ?body ?done ?stop
  case assign =>
   rintro l pre x W K hi hK
   gi_wp2
   have hbn:=(But.refl [] W).alloc (.cells #[.bool (S x.1),.int .u64 (X x.1),.int .u64 (Y x.1),.pointer (Q x.1)] 29)
   exact hK _ _ ((KeepsOthers.alloc _ _).from _) (fun k hk _ => hbn.block k (by have:=hi.size; omega) (by simp)) (hi.but hbn) ⟨W.heap.size,hi.size,BoxAt.new W _ _ _ _ _ 29 (hi.all x.1 x.2),rfl⟩
  case body =>
   rintro l pre ⟨t,ht⟩ a' W hl' ⟨rec,hrec⟩ hi ⟨Bx,hBx,hx,rfl⟩ hlt
   have hlen : ∀ s ∈ pre.map (·.1),Len ((fun t => fs[t]?.getD 0) s) c∧s < 1000000:=fun s hs => by
    obtain ⟨y,-,rfl⟩:=List.mem_map.1 hs
    exact ⟨unhide HLW y.1 y.2,by have:=y.2; omega⟩
   have hw:=len_wsf (fun t => fs[t]?.getD 0) part c 5 (unhide LPT) (pre.map (·.1)) hlen
   have hsn : Hid (wsf (fun t => fs[t]?.getD 0) part ((pre ++ [(⟨t,ht⟩ : Fin fs.length)]).map (·.1)) = wstp (fun t => fs[t]?.getD 0) (wsf (fun t => fs[t]?.getD 0) part (pre.map (·.1))) t):=by
    show _ = _
    rw [List.map_append]
    exact wsf_snoc _ _ _ t
   rw [List.length_map] at hw
   have hpl : pre.length ≤ 201:=by omega
   have m1 : pre.length * (c + 1) ≤ 201 * 4:=Nat.mul_le_mul hpl (by omega)
   have m2 : pre.length * (pre.length * (c + 1) + 5 + c + 3) ≤ 201 * 815:=Nat.mul_le_mul hpl (by omega)
   have ll:=hw.1.mono (show pre.length * (c + 1) + 5 + 1 ≤ 1000 by omega)
   have ls:=hw.2.mono (show pre.length * (pre.length * (c + 1) + 5 + c + 3) + 1 ≤ 170000 by omega)
   generalize wsf (fun t => fs[t]?.getD 0) part (pre.map (·.1)) = q at *
   obtain ⟨lft,sm⟩:=q
   dsimp only at hi hx ll ls
   have HI:=hide hi
   have HX:=hide hx
   have lt':=unhide HLW t ht
   obtain ⟨⟨sx,xx,yx,px,⟨q0,q1,q2,q3⟩,fx⟩,zx⟩:=id hx
   obtain ⟨⟨s8,x8,y8,p8,⟨a0,a1,a2,a3⟩,f8⟩,z8⟩:=id hi.b8
   obtain ⟨r,hr⟩ : ∃ r,r = cmpZ ((fs[t]?.getD 0).num * (lft.den : Int)) (lft.num * ((fs[t]?.getD 0).den : Int)):=⟨_,rfl⟩
   have hgt:=(cmpZ_tells (fs[t]?.getD 0) lft r hr).2.1
   have CM:=hide (fracCmp_any _ _ (fs[t]?.getD 0) lft W fx f8 (lt'.mono (by omega)) (ll.mono (by omega)) r hr)
   have HGT:=hide hgt
   have ht1 : t < 1000000:=by omega
   clear hi hx hgt hr hw m1 m2 hlen z8 zx fx f8
   gi_wp2_with fail
   refine ⟨trivial,(CallsIn.inRound l (callsIn_wide.2 (unhide CM))).mono ?_⟩
   rintro e w1 ⟨rfl,hb1⟩
   have I1:=hide ((unhide HI).but hb1)
   have X1:=hide ((unhide HX).but hb1)
   have BW1:=hide hb1
   have lx : Bx < w1.heap.size:=(unhide X1).lt
   have n8x : g8 ≠ Bx:=by have:=(unhide HORD); omega
   clear hb1 CM a0 a1 a2 a3 q0 q1 q2 q3
   obtain ⟨⟨sx',xx',yx',px',⟨q0,q1,q2,q3⟩,fx⟩,zx⟩:=id (unhide X1)
   obtain ⟨⟨s8',x8',y8',p8',⟨a0,a1,a2,a3⟩,f8⟩,z8⟩:=id (unhide I1).b8
   have K8 : Hid (P4 w1 g8 s8' x8' y8' p8'):=⟨a0,a1,a2,a3⟩
   have KX : Hid (P4 w1 Bx sx' xx' yx' px'):=⟨q0,q1,q2,q3⟩
   have F8:=hide f8
   have FX:=hide fx
   have gl8 : g8 < w1.heap.size:=lt_of_cell a0
   clear f8 fx
   by_cases hr0 : 0 < r
   ·have hgt : lft < fs[t]?.getD 0:=(unhide HGT).1 hr0
    have hP1:=put4_but w1 Bx s8' x8' y8' p8'
    obtain ⟨v0,v1,v2,v3⟩:=put4_p4 w1 Bx s8' x8' y8' p8' (unhide KX)
    have I2:=hide ((unhide I1).putX (unhide HORD) (by omega) (unhide X1) s8' x8' y8' p8')
    have X2:=hide ((unhide X1).put (unhide F8))
    have F8b:=hide ((unhide F8).over (unhide KX).1 hP1)
    have BW2 : Hid (But [Bx,g8,g9] W _):=(But.of_nil (unhide BW1)).trans hP1 (fun z hz => by simp at hz; subst hz; exact .inl (by simp))
    have u0:=hP1.cell_some a0 (by simp; omega)
    have u1:=hP1.cell_some a1 (by simp; omega)
    have u2:=hP1.cell_some a2 (by simp; omega)
    have u3:=hP1.cell_some a3 (by simp; omega)
    have SU:=hide (in_parts (fracSub_any _ _ lft lft (put4 w1 Bx s8' x8' y8' p8') (unhide F8b) (unhide F8b) (ll.mono (by omega)) (ll.mono (by omega))))
    gi_wp2_with fail
    refine ⟨trivial,(CallsIn.inRound l (callsIn_wide.2 (unhide SU))).mono ?_⟩
    rintro e w3' ⟨s3,x3,y3,p3,rfl,hf3,hb3⟩
    have I3:=hide ((unhide I2).but hb3)
    have X3:=hide ((unhide X2).but hb3)
    have BW3:=hide ((unhide BW2).trans hb3 (fun z hz => by simp at hz))
    obtain ⟨⟨s8',x8',y8',p8',⟨k0,k1,k2,k3⟩,f8'⟩,z8'⟩:=id (unhide I3).b8
    have K8' : Hid (P4 w3' g8 s8' x8' y8' p8'):=⟨k0,k1,k2,k3⟩
    have gl8' : g8 < w3'.heap.size:=lt_of_cell k0
    have HF3:=hide hf3
    clear f8' hf3 hb3 SU I2 X2 BW2 u0 u1 u2 u3 v0 v1 v2 v3
    gi_wp2
    have hP3:=put4_but w3' g8 s3 x3 y3 p3
    have ji:=(unhide I3).put8 (unhide HORD) (unhide HF3)
    have jx : BoxAt (put4 w3' g8 s3 x3 y3 p3) Bx (lft):=(unhide X3).beside hP3 (by simp; omega) (fun g hg => by simp at hg; subst hg; exact (unhide I3).b8.bool)
    have jb:=(unhide BW3).trans hP3 (fun z hz => by simp at hz; subst hz; exact .inl (by simp))
    change Code.wpIn _ _ _ _ _ _ (put4 w3' g8 s3 x3 y3 p3)
    have JI:=hide ji
    have JX:=hide jx
    have JB3:=hide jb
    clear ji jx jb hP3
    generalize put4 w3' g8 s3 x3 y3 p3 = V3 at *
    obtain ⟨⟨s9,x9,y9,p9,c9,f9⟩,z9⟩:=id (unhide JI).b9
    obtain ⟨ws',wx',FW,CW⟩:=whole_is (t : Int) (by omega) (by omega)
    have lint : Len ((((t : Nat) : Int)) : Rat) 1:=len_int _ (by omega)
    obtain ⟨⟨sy,xy,yy,py,cy,fy⟩,-⟩:=id (unhide JX)
    refine worst_region15 15 l _ _ _ V3 s9 x9 y9 p9 sy xy yy py (t : Int) ws' wx' sm lft g9 Bx (by simp) (by simp [Act.eval]) (by simp [Act.eval]) (by simp [Act.eval]) c9 z9 cy CW (fun w' hb => fracMul_any _ _ _ _ w' (fy.but hb) (FW w') (ll.mono (by omega)) (lint.mono (by omega))) (fun w' v' hb hv' => fracAdd_gen 200000 200000 (by omega) _ _ _ _ w' (f9.but hb) hv' (ls.mono (by omega)) (len_mul ll lint 200000 (by omega))) ?_
    intro a2 w5 s' x' y' p' hb5 hf5
    have hi5:=((unhide JI).but hb5).put9 (unhide HORD) hf5
    have kp:=keepsS_of_but (l:=[Bx,g8,g9]) (gs:=[g8,g9]) ((unhide JB3).trans ((But.of_nil hb5).trans (put4_but w5 g9 s' x' y' p') (fun z hz => .inl hz)) (fun z hz => by simp at hz; subst hz; exact .inl (by simp))) (fun z hz => by
     simp at hz
     rcases hz with rfl | rfl | rfl
     ·exact ⟨_,(unhide HX).bool.choose_spec⟩
     ·exact ⟨_,(unhide HI).b8.bool.choose_spec⟩
     ·exact ⟨_,(unhide HI).b9.bool.choose_spec⟩) W0.heap.size W0.heap.size (unhide HI).size (fun z hz => by
     simp at hz
     rcases hz with rfl | rfl | rfl
     ·exact .inr hBx
     ·exact .inl (by simp)
     ·exact .inl (by simp))
    refine ⟨kp.1,kp.2,?_⟩
    show WorstI w W0 g4 g7 g8 g9 S X Y Q fs part _ _ _
    rw [unhide hsn]
    have e1 : (wstp (fun t => fs[t]?.getD 0) (lft,sm) t).1 = lft - lft:=by
     unfold wstp
     show _ = _
     dsimp only
     rw [if_neg (Rat.not_le.2 hgt)]
    have e2 : (wstp (fun t => fs[t]?.getD 0) (lft,sm) t).2 = sm + lft * (((t : Nat) : Int) : Rat):=by
     unfold wstp
     show _ = _
     dsimp only
     rw [if_neg (Rat.not_le.2 hgt)]
    rw [e1,e2]
    exact hi5
   ·have hle : fs[t]?.getD 0 ≤ lft:=Rat.not_lt.1 (fun h => hr0 ((unhide HGT).2 h))
    have I2:=I1
    have X2:=X1
    have BW2 : Hid (But [Bx,g8,g9] W w1):=But.of_nil (unhide BW1)
    have SU:=hide (in_parts (fracSub_any _ _ lft (fs[t]?.getD 0) w1 (unhide F8) (unhide FX) (ll.mono (by omega)) (lt'.mono (by omega))))
    gi_wp2_with fail
    refine ⟨trivial,(CallsIn.inRound l (callsIn_wide.2 (unhide SU))).mono ?_⟩
    rintro e w3' ⟨s3,x3,y3,p3,rfl,hf3,hb3⟩
    have I3:=hide ((unhide I2).but hb3)
    have X3:=hide ((unhide X2).but hb3)
    have BW3:=hide ((unhide BW2).trans hb3 (fun z hz => by simp at hz))
    obtain ⟨⟨s8',x8',y8',p8',⟨k0,k1,k2,k3⟩,f8'⟩,z8'⟩:=id (unhide I3).b8
    have K8' : Hid (P4 w3' g8 s8' x8' y8' p8'):=⟨k0,k1,k2,k3⟩
    have gl8' : g8 < w3'.heap.size:=lt_of_cell k0
    have HF3:=hide hf3
    clear f8' hf3 hb3 SU I2 X2 BW2 a0 a1 a2 a3 q0 q1 q2 q3
    gi_wp2
    have hP3:=put4_but w3' g8 s3 x3 y3 p3
    have ji:=(unhide I3).put8 (unhide HORD) (unhide HF3)
    have jx : BoxAt (put4 w3' g8 s3 x3 y3 p3) Bx (fs[t]?.getD 0):=(unhide X3).beside hP3 (by simp; omega) (fun g hg => by simp at hg; subst hg; exact (unhide I3).b8.bool)
    have jb:=(unhide BW3).trans hP3 (fun z hz => by simp at hz; subst hz; exact .inl (by simp))
    change Code.wpIn _ _ _ _ _ _ (put4 w3' g8 s3 x3 y3 p3)
    have JI:=hide ji
    have JX:=hide jx
    have JB3:=hide jb
    clear ji jx jb hP3
    generalize put4 w3' g8 s3 x3 y3 p3 = V3 at *
    obtain ⟨⟨s9,x9,y9,p9,c9,f9⟩,z9⟩:=id (unhide JI).b9
    obtain ⟨ws',wx',FW,CW⟩:=whole_is (t : Int) (by omega) (by omega)
    have lint : Len ((((t : Nat) : Int)) : Rat) 1:=len_int _ (by omega)
    obtain ⟨⟨sy,xy,yy,py,cy,fy⟩,-⟩:=id (unhide JX)
    refine worst_region15 15 l _ _ _ V3 s9 x9 y9 p9 sy xy yy py (t : Int) ws' wx' sm (fs[t]?.getD 0) g9 Bx (by simp) (by simp [Act.eval]) (by simp [Act.eval]) (by simp [Act.eval]) c9 z9 cy CW (fun w' hb => fracMul_any _ _ _ _ w' (fy.but hb) (FW w') (lt'.mono (by omega)) (lint.mono (by omega))) (fun w' v' hb hv' => fracAdd_gen 200000 200000 (by omega) _ _ _ _ w' (f9.but hb) hv' (ls.mono (by omega)) (len_mul lt' lint 200000 (by omega))) ?_
    intro a2 w5 s' x' y' p' hb5 hf5
    have hi5:=((unhide JI).but hb5).put9 (unhide HORD) hf5
    have kp:=keepsS_of_but (l:=[Bx,g8,g9]) (gs:=[g8,g9]) ((unhide JB3).trans ((But.of_nil hb5).trans (put4_but w5 g9 s' x' y' p') (fun z hz => .inl hz)) (fun z hz => by simp at hz; subst hz; exact .inl (by simp))) (fun z hz => by
     simp at hz
     rcases hz with rfl | rfl | rfl
     ·exact ⟨_,(unhide HX).bool.choose_spec⟩
     ·exact ⟨_,(unhide HI).b8.bool.choose_spec⟩
     ·exact ⟨_,(unhide HI).b9.bool.choose_spec⟩) W0.heap.size W0.heap.size (unhide HI).size (fun z hz => by
     simp at hz
     rcases hz with rfl | rfl | rfl
     ·exact .inr hBx
     ·exact .inl (by simp)
     ·exact .inl (by simp))
    refine ⟨kp.1,kp.2,?_⟩
    show WorstI w W0 g4 g7 g8 g9 S X Y Q fs part _ _ _
    rw [unhide hsn]
    have e1 : (wstp (fun t => fs[t]?.getD 0) (lft,sm) t).1 = lft - (fs[t]?.getD 0):=by
     unfold wstp
     show _ = _
     dsimp only
     rw [if_pos hle]
    have e2 : (wstp (fun t => fs[t]?.getD 0) (lft,sm) t).2 = sm + (fs[t]?.getD 0) * (((t : Nat) : Int) : Rat):=by
     unfold wstp
     show _ = _
     dsimp only
     rw [if_pos hle]
    rw [e1,e2]
    exact hi5
  case done =>
   rintro D ys W hD rfl hi hK
   have hlen : ∀ s ∈ (downsL fs.length 0).map (fun z : Fin fs.length => z.1),Len ((fun t => fs[t]?.getD 0) s) c∧s < 1000000:=fun s hs => by
    obtain ⟨y,-,rfl⟩:=List.mem_map.1 hs
    exact ⟨unhide HLW y.1 y.2,by have:=y.2; omega⟩
   have hw:=(len_wsf (fun t => fs[t]?.getD 0) part c 5 (unhide LPT) _ hlen).2
   rw [List.length_map,downs_lengthL,Nat.sub_zero] at hw
   have m1 : fs.length * (c + 1) ≤ 201 * 4:=Nat.mul_le_mul hn1 (by omega)
   have m2 : fs.length * (fs.length * (c + 1) + 5 + c + 3) ≤ 201 * 815:=Nat.mul_le_mul hn1 (by omega)
   have ls:=hw.mono (show fs.length * (fs.length * (c + 1) + 5 + c + 3) + 1 ≤ 170000 by omega)
   obtain ⟨⟨s9,x9,y9,p9,⟨a0,a1,a2,a3⟩,f9⟩,z9⟩:=id hi.b9
   obtain ⟨⟨t7,a7,b7',q7,⟨c0,c1,c2,c3⟩,f7⟩,z7⟩:=id hi.b7
   have QU:=hide (in_parts (quotient_any _ _ _ part W f9 f7 (ls.mono (by omega)) ((unhide LPT).mono (by omega)) (fun h => unhide HPT (Rat.num_eq_zero.1 h))))
   have HI:=hide hi
   have HK:=hide hK
   have hDl : D < W.heap.size:=(Array.getElem?_eq_some_iff.1 hK).1
   clear hi hK f9 f7 z9 z7 hlen hw m1 m2 ls
   gi_wp2_with fail
   refine ⟨trivial,(callsIn_wide.2 (unhide QU)).mono ?_⟩
   rintro e w5 ⟨s5,x5,y5,p5,rfl,hf5,hb5⟩
   have I5:=hide ((unhide HI).but hb5)
   have hK5:=(hb5.block D hDl (by simp)).trans (unhide HK)
   obtain ⟨⟨s4,x4,y4,p4,⟨r0,r1,r2,r3⟩,-⟩,z4⟩:=id (unhide I5).b4
   have C4 : Hid (P4 w5 g4 s4 x4 y4 p4):=⟨r0,r1,r2,r3⟩
   have HF5:=hide hf5
   have gl4 : g4 < w5.heap.size:=lt_of_cell r0
   have hK2 : Hid ((put4 w5 g4 s5 x5 y5 p5).heap[D]? = some (.deferred (some []))):=((put4_but w5 g4 s5 x5 y5 p5).block D (Array.getElem?_eq_some_iff.1 hK5).1 (by simp; omega)).trans hK5
   clear hf5 hb5 QU a0 a1 a2 a3 c0 c1 c2 c3 HI HK hK5
   gi_wp2
   have hcalm : Calm (put4 w5 g4 s5 x5 y5 p5) ((put4 w5 g4 s5 x5 y5 p5).putObj D (.deferred none)):=calm_grownL (grownBy_putObj' _ D _) (fun r e => by cases e; exact ⟨_,unhide hK2,rfl⟩)
   have hpp:=(put4_p4 w5 g4 s5 x5 y5 p5 (unhide C4)).calm hcalm
   have hff:=((unhide HF5).over (unhide C4).1 (put4_but w5 g4 s5 x5 y5 p5)).calm hcalm
   have hB1 : But [] w (put4 w5 g4 s5 x5 y5 p5):=(But.of_below (unhide I5).below).trans (put4_but w5 g4 s5 x5 y5 p5) (fun x hx => by simp at hx; subst hx; exact .inr (by omega))
   have hB2 : But [] w ((put4 w5 g4 s5 x5 y5 p5).putObj D (.deferred none)):=hB1.trans (l':=[D]) ⟨rfl,rfl,rfl,by simp,fun k _ hk => World.putObj_heap_other (by simpa using hk)⟩ (fun x hx => by simp at hx; subst hx; exact .inr (by omega))
   obtain ⟨t0,t1,t2,t3⟩:=hpp
   change bodyPostM _ _ _ _ _ Exit.ret _ (put4 w5 g4 s5 x5 y5 p5)
   generalize put4 w5 g4 s5 x5 y5 p5 = V5 at *
   refine ⟨by simp,.inl ⟨_,_,rfl,run_takeDeferred (unhide hK2),?_⟩⟩
   refine ⟨.tuple #[.agg #[.bool s5,.int .u64 x5,.int .u64 y5,.pointer p5],.nilIface],(by simp [results,Tryz.results20,go_sem,t0,t1,t2,t3]),hB2,.inr ⟨hb,s5,x5,y5,p5,rfl,?_⟩⟩
   rw [unhide HPE]
   exact hff
  case stop =>
   rintro D c pre W _ _ h
   exact h.elim
 ·rw [decide_eq_false hb]
  obtain ⟨⟨t4,a4,b4,q4,⟨d0,d1,d2,d3⟩,-⟩,z4⟩:=unhide X42
  have P2 : Hid (P4 w2 g4 t4 a4 b4 q4):=⟨d0,d1,d2,d3⟩
  gi_wp2
  have hP:=put4_but w2 g4 false 0 0 none
  obtain ⟨m0,m1,m2,m3⟩:=put4_p4 w2 g4 false 0 0 none (unhide P2)
  have hF : But [] w (put4 w2 g4 false 0 0 none):=(unhide B2).trans hP (fun x hx => by simp at hx; subst hx; exact .inr (by omega))
  change bodyPostM _ _ _ _ _ _ _ (put4 w2 g4 false 0 0 none)
  generalize put4 w2 g4 false 0 0 none = F at *
  exact ⟨.tuple #[.agg #[.bool false,.int .u64 0,.int .u64 0,.pointer none],.iface 54 (.int .i64 2)],(by simp [results,Tryz.results20,go_sem,m0,m1,m2,m3]),hF,.inl ⟨hb,rfl⟩⟩
end Go.Proofs.YtikgmhpbdcdogaaGreatDoor

namespace Go.Proofs.YtikgmhpbdcdogaaGreatDoor
open Go.RowKit

theorem layF_is (fs : List Rat) (a b : Nat) : ∀ i,layF fs a b i = layG (fun j => fs[j]?.getD 0) (wi a b) i
 | 0 => rfl
 | i + 1 => by
  show setF (layF fs a b i) (wi a b i) (layF fs a b i (wi a b i) + fs[i]?.getD 0) = _
  rw [layF_is fs a b i]
  rfl
theorem meanR_is (fs : List Rat) (g : Nat→Int) : ∀ k,meanR fs g k = sgR (fun j => fs[j]?.getD 0 * ((g j : Int) : Rat)) k
 | 0 => rfl
 | k + 1 => by
  show meanR fs g k + _ = sgR _ k + _
  rw [meanR_is fs g k]
theorem sumR_is (fs : List Rat) : ∀ k,k ≤ fs.length→sumR (fs.take k) = sgR (fun j => fs[j]?.getD 0) k
 | 0,_ => rfl
 | k + 1,h => by
  rw [sumR_take fs k (by omega),sumR_is fs k (by omega)]
  rfl
theorem sumR_all (fs : List Rat) : sumR fs = sgR (fun j => fs[j]?.getD 0) fs.length:=by
 have h:=sumR_is fs fs.length (Nat.le_refl _)
 rw [List.take_length] at h
 exact h
theorem row_get (T : Nat) (F : Nat→Rat) (k : Nat) (h : k < T) : ((List.range T).map F)[k]?.getD 0 = F k:=by
 rw [List.getElem?_map,List.getElem?_range h]
 rfl
theorem nonneg_at {fs : List Rat} (h : ∀ f ∈ fs,0 ≤ f) (k : Nat) (hk : k < fs.length) : 0 ≤ fs[k]?.getD 0:=by
 rw [List.getElem?_eq_getElem hk]
 exact h _ (List.getElem_mem hk)
theorem chk_make {fs : List Rat} (h0 : 0 < fs.length) (h1 : fs.length ≤ 201) (hp : ∀ f ∈ fs,0 ≤ f) (hs : sumR fs = 1) : chkE fs = 0:=by
 unfold chkE
 rw [if_neg (by omega),if_neg,if_pos hs]
 rw [List.any_eq_true]
 rintro ⟨f,hf,hd⟩
 have h2:=Rat.num_nonneg.2 (hp f hf)
 have h3:=of_decide_eq_true hd
 omega
theorem greatest_is {fs : List Rat} (h : chkE fs = 0) : ∃ m,m < fs.length∧(fs[m]?.getD 0).num ≠ 0∧∀ j,m < j→j < fs.length→(fs[j]?.getD 0).num = 0:=by
 obtain ⟨h0,h1,hp,hs⟩:=chk_some h
 have key : ∀ d,d ≤ fs.length→(∃ m,m < fs.length∧(fs[m]?.getD 0).num ≠ 0∧∀ j,m < j→j < fs.length→(fs[j]?.getD 0).num = 0) ∨ ∀ j,fs.length - d ≤ j→j < fs.length→(fs[j]?.getD 0).num = 0:=by
  intro d
  induction d with
  | zero => exact fun _ => .inr (fun j h1 h2 => by omega)
  | succ d ih =>
   intro hd
   rcases ih (by omega) with h | h
   ·exact .inl h
   ·by_cases hz : (fs[fs.length - (d + 1)]?.getD 0).num = 0
    ·refine .inr (fun j h1 h2 => ?_)
     by_cases e : j = fs.length - (d + 1)
     ·rw [e]; exact hz
     ·exact h j (by omega) h2
    ·exact .inl ⟨fs.length - (d + 1),by omega,hz,fun j h1 h2 => h j (by omega) h2⟩
 rcases key fs.length (Nat.le_refl _) with h | h
 ·exact h
 ·exfalso
  rw [sumR_all] at hs
  rw [sgR_congr _ (fun _ => 0) fs.length (fun k hk => Rat.num_eq_zero.1 (h k (by omega) hk)),sgR_zero] at hs
  exact absurd hs (by decide)
theorem wi_lt (a b m j : Nat) (h : j ≤ m) : wi a b j < wi a b m + 1:=by unfold wi; omega
/-- a layer's law may be, and its mean is what the layer bears in the mean -/
theorem layer_facts (fs : List Rat) (a b m : Nat) (hck : chkE fs = 0) (hm : m < fs.length) (h2 : ∀ j,m < j→j < fs.length→(fs[j]?.getD 0).num = 0) :
  chkE ((List.range (wi a b m + 1)).map (layF fs a b (m + 1))) = 0∧meanR ((List.range (wi a b m + 1)).map (layF fs a b (m + 1))) (fun k => (k : Int)) (wi a b m + 1) = sgR (fun j => fs[j]?.getD 0 * (((wi a b j : Nat) : Int) : Rat)) (m + 1):=by
 obtain ⟨h0,h1,hp,hs⟩:=chk_some hck
 have hpos:=fun j (hj : j < m + 1) => nonneg_at hp j (by omega)
 have hbe : ∀ k,m + 1 ≤ k→fs[k]?.getD 0 = 0:=fun k hk => by
  by_cases hkl : k < fs.length
  ·exact Rat.num_eq_zero.1 (h2 k (by omega) hkl)
  ·rw [List.getElem?_eq_none (by omega)]; rfl
 have hone : sgR (fun j => fs[j]?.getD 0) (m + 1) = 1:=by
  rw [sumR_all] at hs
  have:=sgR_more (fun j => fs[j]?.getD 0) (m + 1) (fs.length - (m + 1)) hbe
  rw [show m + 1 + (fs.length - (m + 1)) = fs.length from by omega] at this
  rw [← this]; exact hs
 have hl : ((List.range (wi a b m + 1)).map (layF fs a b (m + 1))).length = wi a b m + 1:=by simp
 have hw : wi a b m ≤ m:=by unfold wi; omega
 constructor
 ·refine chk_make (by omega) (by omega) (fun f hf => ?_) ?_
  ·obtain ⟨t,-,rfl⟩:=List.mem_map.1 hf
   rw [layF_is]
   exact layG_nonneg _ _ (m + 1) hpos t
  ·rw [sumR_all,hl,sgR_congr _ (fun t => layG (fun j => fs[j]?.getD 0) (wi a b) (m + 1) t * 1) _ (fun k hk => by
    rw [row_get _ _ _ hk,layF_is]; grind),layG_sum _ _ (fun _ => 1) _ (m + 1) (fun j hj => wi_lt a b m j (by omega)),← hone]
   exact sgR_congr _ _ _ (fun k _ => by grind)
 ·rw [meanR_is,sgR_congr _ (fun t => layG (fun j => fs[j]?.getD 0) (wi a b) (m + 1) t * (((t : Nat) : Int) : Rat)) _ (fun k hk => by
   rw [row_get _ _ _ hk,layF_is]),layG_sum _ _ (fun t => (((t : Nat) : Int) : Rat)) _ (m + 1) (fun j hj => wi_lt a b m j (by omega))]
/-- three layers bear all together, in the mean -/
theorem layers_add (fs : List Rat) (a b m : Nat) (hm : m < fs.length) (h2 : ∀ j,m < j→j < fs.length→(fs[j]?.getD 0).num = 0) :
  sgR (fun j => fs[j]?.getD 0 * (((wi 0 a j : Nat) : Int) : Rat)) (m + 1) + sgR (fun j => fs[j]?.getD 0 * (((wi a b j : Nat) : Int) : Rat)) (m + 1) + meanR fs (fun k => max ((k : Int) - ((a : Int) + (b : Int))) 0) fs.length = meanR fs (fun k => (k : Int)) fs.length:=by
 have hbe : ∀ k,m + 1 ≤ k→fs[k]?.getD 0 = 0:=fun k hk => by
  by_cases hkl : k < fs.length
  ·exact Rat.num_eq_zero.1 (h2 k (by omega) hkl)
  ·rw [List.getElem?_eq_none (by omega)]; rfl
 have ext : ∀ u : Nat→Nat,sgR (fun j => fs[j]?.getD 0 * (((u j : Nat) : Int) : Rat)) (m + 1) = sgR (fun j => fs[j]?.getD 0 * (((u j : Nat) : Int) : Rat)) fs.length:=fun u => by
  have:=sgR_more (fun j => fs[j]?.getD 0 * (((u j : Nat) : Int) : Rat)) (m + 1) (fs.length - (m + 1)) (fun k hk => by
   show fs[k]?.getD 0 * _ = 0
   rw [hbe k hk,Rat.zero_mul])
  rw [show m + 1 + (fs.length - (m + 1)) = fs.length from by omega] at this
  exact this.symm
 rw [ext,ext,meanR_is,meanR_is,← sgR_add,← sgR_add]
 refine sgR_congr _ _ _ (fun k _ => ?_)
 have e : ((wi 0 a k : Nat) : Int) + ((wi a b k : Nat) : Int) + max ((k : Int) - ((a : Int) + (b : Int))) 0 = (k : Int):=by unfold wi; omega
 have e2 : (((wi 0 a k : Nat) : Int) : Rat) + (((wi a b k : Nat) : Int) : Rat) + ((max ((k : Int) - ((a : Int) + (b : Int))) 0 : Int) : Rat) = ((k : Int) : Rat):=by
  rw [← Rat.intCast_add,← Rat.intCast_add,e]
 rw [← e2]
 grind
theorem downs_dn (n : Nat) : ∀ d,d ≤ n→(downsL n (n - d)).map (fun z : Fin n => z.1) = dnL n d
 | 0,_ => by rw [Nat.sub_zero,downs_endL]; rfl
 | d + 1,h => by
  rw [downs_nextL n (n - (d + 1)) (by omega),List.map_append,show n - (d + 1) + 1 = n - d from by omega,downs_dn n d (by omega)]
  rfl
/-- the worst part is no better than the mean, and than its least -/
theorem worst_facts (fs : List Rat) (ch : Rat) (hck : chkE fs = 0) (h0 : 0 ≤ ch) (hlt : ch < 1) :
  meanR fs (fun k => (k : Int)) fs.length ≤ (wsf (fun t => fs[t]?.getD 0) (((1 : Int) : Rat) - ch) ((downsL fs.length 0).map (·.1))).2 / (((1 : Int) : Rat) - ch) ∧
  (ch = 0→(wsf (fun t => fs[t]?.getD 0) (((1 : Int) : Rat) - ch) ((downsL fs.length 0).map (·.1))).2 / (((1 : Int) : Rat) - ch) = meanR fs (fun k => (k : Int)) fs.length) ∧
  ∀ k,k < fs.length→sumR (fs.take k) < ch→((k : Int) : Rat) ≤ (wsf (fun t => fs[t]?.getD 0) (((1 : Int) : Rat) - ch) ((downsL fs.length 0).map (·.1))).2 / (((1 : Int) : Rat) - ch):=by
 obtain ⟨hn0,hn1,hp,hs⟩:=chk_some hck
 rw [sumR_all] at hs
 have e1 : ((1 : Int) : Rat) = 1:=rfl
 have ed : (downsL fs.length 0).map (fun z : Fin fs.length => z.1) = dnL fs.length fs.length:=by
  have:=downs_dn fs.length fs.length (Nat.le_refl _)
  rw [Nat.sub_self] at this
  exact this
 rw [ed,e1,meanR_is]
 have hpos : 0 < 1 - ch:=by grind
 have hf:=fun k (hk : k < fs.length) => nonneg_at hp k hk
 have hw:=worst_mean (fun t => fs[t]?.getD 0) fs.length (1 - ch) (by grind) (by grind) hf hs
 have dv : ∀ x y : Rat,x * (1 - ch) ≤ y→x ≤ y / (1 - ch):=fun x y h => by
  have h1 : y / (1 - ch) * (1 - ch) = y:=Rat.div_mul_cancel (by grind)
  refine Rat.le_of_mul_le_mul_right (c:=1 - ch) ?_ hpos
  rw [h1]; exact h
 refine ⟨dv _ _ ?_,fun hz => ?_,fun k hk hlt' => dv _ _ ?_⟩
 ·have:=hw.1
  rw [Rat.mul_comm]; exact this
 ·rw [hz]
  have:=hw.2 (by rw [hz]; grind)
  rw [hz] at this
  rw [this]
  have e2 : (1 : Rat) - 0 = 1:=by grind
  rw [e2]
  grind
 ·rw [sumR_is fs k (by omega)] at hlt'
  exact worst_least (fun t => fs[t]?.getD 0) fs.length ch h0 hlt hf hs k hk hlt'
end Go.Proofs.YtikgmhpbdcdogaaGreatDoor
