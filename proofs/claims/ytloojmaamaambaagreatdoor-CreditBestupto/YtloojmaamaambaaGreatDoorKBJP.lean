/- The kinds that the law CreditBest lays, what package credit says of them and of its rows. -/
import Derived.Test.YtloojmaamaambaaGreatDoorKBJJe
import Derived.Test.YtloojmaamaambaaGreatDoorKBJN
import Derived.Test.YtloojmaamaambaaGreatDoorKBJO
namespace Go.Proofs.YtloojmaamaambaaGreatDoor
open Go.RowKit

theorem info_kind : ∃ i,Tryz.prog.info? 79 = some i∧i.zero = some (.agg #[.bool false,.int .u64 0,.int .u64 0,.pointer none,.bool false,.int .u64 0,.int .u64 0,.pointer none,.bool false,.int .u64 0,.int .u64 0,.pointer none])∧i.size = 12∧i.bytes = 96:=by
 have h : (Tryz.prog.info? 79).map (fun i => (i.zero,i.size,i.bytes)) = some (some (.agg #[.bool false,.int .u64 0,.int .u64 0,.pointer none,.bool false,.int .u64 0,.int .u64 0,.pointer none,.bool false,.int .u64 0,.int .u64 0,.pointer none]),12,96):=by kernel_rfl
 cases e : Tryz.prog.info? 79 with
 | none => rw [e] at h; simp at h
 | some i =>
  rw [e] at h
  simp only [Option.map_some,Option.some.injEq,Prod.mk.injEq] at h
  exact ⟨i,rfl,h.1,h.2.1,h.2.2⟩
theorem append_kind (w : World) (base : Nat) (v : Value) (k : Nat) (us : List Value) (hown : w.ownsRow base 79 12 v k us) (g : Nat) (s1 : Bool) (x1 y1 : Int) (p1 : Option Addr) (s2 : Bool) (x2 y2 : Int) (p2 : Option Addr) (s3 : Bool) (x3 y3 : Int) (p3 : Option Addr) (c : K12 w g 0 s1 x1 y1 p1 s2 x2 y2 p2 s3 x3 y3 p3) (hk : k < 1000000) (hb : base ≤ w.heap.size) :
  ∃ v' w',(Builtin.append_ #[77,77] 77 #[v,.slice (some ⟨g,0,none⟩) 1 1]).run Tryz.prog w = .ok v' w'∧w'.ownsRow base 79 12 v' (k + 1) (us ++ [.bool s1,.int .u64 x1,.int .u64 y1,.pointer p1,.bool s2,.int .u64 x2,.int .u64 y2,.pointer p2,.bool s3,.int .u64 x3,.int .u64 y3,.pointer p3])∧w.grownBy w' v.ownBlock:=by
 obtain ⟨i0,hi,hz0,hz1,hz2⟩:=info_kind
 obtain ⟨v',w',hr,ho,hg,-⟩:=run_append_own (P:=Tryz.prog) w base 77 77 79 i0 _ 12 96 Tryz.underlying77 hi hz0 hz1 hz2 rfl (by decide) v k us hown ⟨g,0,none⟩ 1 1 [.bool s1,.int .u64 x1,.int .u64 y1,.pointer p1,.bool s2,.int .u64 x2,.int .u64 y2,.pointer p2,.bool s3,.int .u64 x3,.int .u64 y3,.pointer p3] rfl (fun j u hj => by
   have : j = 0 ∨ j = 1 ∨ j = 2 ∨ j = 3 ∨ j = 4 ∨ j = 5 ∨ j = 6 ∨ j = 7 ∨ j = 8 ∨ j = 9 ∨ j = 10 ∨ j = 11 ∨ 12 ≤ j:=by omega
   obtain ⟨⟨c0,c1,c2,c3⟩,⟨c4,c5,c6,c7⟩,c8,c9,c10,c11⟩:=c
   rcases this with rfl | rfl | rfl | rfl | rfl | rfl | rfl | rfl | rfl | rfl | rfl | rfl | h12
   ·simp at hj; subst hj; exact c0
   ·simp at hj; subst hj; exact c1
   ·simp at hj; subst hj; exact c2
   ·simp at hj; subst hj; exact c3
   ·simp at hj; subst hj; exact c4
   ·simp at hj; subst hj; exact c5
   ·simp at hj; subst hj; exact c6
   ·simp at hj; subst hj; exact c7
   ·simp at hj; subst hj; exact c8
   ·simp at hj; subst hj; exact c9
   ·simp at hj; subst hj; exact c10
   ·simp at hj; subst hj; exact c11
   ·rw [List.getElem?_eq_none (by simpa using h12)] at hj; simp at hj) (fun u hu => by
   simp only [List.mem_cons,List.not_mem_nil,or_false] at hu
   rcases hu with rfl | rfl | rfl | rfl | rfl | rfl | rfl | rfl | rfl | rfl | rfl | rfl <;> rfl) (by unfold maxLen; omega) (by omega) hb
 exact ⟨v',w',hr,ho,hg⟩
theorem flat_len (f : Nat→List Value) (hf : ∀ i,(f i).length = 12) : ∀ k,((List.range k).flatMap f).length = k * 12
 | 0 => rfl
 | k + 1 => by rw [List.range_succ,List.flatMap_append,List.length_append,flat_len f hf k,List.flatMap_singleton,hf k]; omega
theorem flat_get (f : Nat→List Value) (hf : ∀ i,(f i).length = 12) : ∀ k i r,i < k→r < 12→((List.range k).flatMap f)[i * 12 + r]? = (f i)[r]?
 | 0,i,r,h,_ => absurd h (by omega)
 | k + 1,i,r,h,hr => by
  rw [List.range_succ,List.flatMap_append,List.flatMap_singleton]
  by_cases hi : i < k
  ·rw [List.getElem?_append_left (by rw [flat_len f hf k]; omega)]
   exact flat_get f hf k i r hi hr
  ·obtain rfl : i = k:=by omega
   rw [List.getElem?_append_right (by rw [flat_len f hf i]; omega),flat_len f hf i,show i * 12 + r - i * 12 = r by omega]
/-- what plain.F makes of a list of pairs -/
theorem chF (qs : List (Int × Int)) (hf : ∀ q ∈ qs,Fits q) : ∃ (R : Nat→Bool) (X Y : Nat→Int),∀ i,i < qs.length→Len (qf (qs[i]?.getD (0,0))) 1∧(∀ W,FracAt W (.agg #[.bool (R i),.int .u64 (X i),.int .u64 (Y i),.pointer none]) (qf (qs[i]?.getD (0,0))))∧∀ W,Calls Tryz.prog 10 #[.agg #[.int .i64 (qs[i]?.getD (0,0)).1,.int .i64 (qs[i]?.getD (0,0)).2]] W fun e w' => e = .returned (.agg #[.bool (R i),.int .u64 (X i),.int .u64 (Y i),.pointer none])∧But [] W w':=by
 have h : ∀ i,∃ t : Bool × Int × Int,i < qs.length→Len (qf (qs[i]?.getD (0,0))) 1∧(∀ W,FracAt W (.agg #[.bool t.1,.int .u64 t.2.1,.int .u64 t.2.2,.pointer none]) (qf (qs[i]?.getD (0,0))))∧∀ W,Calls Tryz.prog 10 #[.agg #[.int .i64 (qs[i]?.getD (0,0)).1,.int .i64 (qs[i]?.getD (0,0)).2]] W fun e w' => e = .returned (.agg #[.bool t.1,.int .u64 t.2.1,.int .u64 t.2.2,.pointer none])∧But [] W w':=fun i => by
  by_cases hi : i < qs.length
  ·rw [List.getElem?_eq_getElem hi]
   obtain ⟨r,x,y,h0,h1,h2⟩:=plainF_at qs[i] (hf _ (List.getElem_mem hi))
   exact ⟨(r,x,y),fun _ => ⟨h0,h1,h2⟩⟩
  ·exact ⟨(false,0,0),fun h => absurd h hi⟩
 obtain ⟨t,ht⟩:=Classical.axiomOfChoice h
 exact ⟨fun i => (t i).1,fun i => (t i).2.1,fun i => (t i).2.2,ht⟩
/-- the pairs as they lie -/
theorem qs_cells {w : World} {q : Option Addr} {n c : Nat} {qs : List (Int × Int)} (h : QsAt w (.slice q n c) qs) (i : Nat) (hi : i < n) : ∃ b off,q = some ⟨b,off,none⟩∧w.cell? ⟨b,off + i * 2,none⟩ = some (.int .i64 (qs[i]?.getD (0,0)).1)∧w.cell? ⟨b,off + i * 2 + 1,none⟩ = some (.int .i64 (qs[i]?.getD (0,0)).2):=by
 obtain ⟨a,cap,e,-,h⟩:=h
 simp only [Value.slice.injEq] at e
 obtain ⟨rfl,rfl,-⟩:=e
 rw [List.getElem?_eq_getElem hi]
 exact h i _ (List.getElem?_eq_getElem hi)
/-- the kinds of three lists of pairs -/
theorem kinds_chosen (p1 p2 p3 : List (Int × Int)) (n : Nat) (hn1 : n ≤ p1.length) (hn2 : n ≤ p2.length) (hn3 : n ≤ p3.length) (hf1 : ∀ q ∈ p1,Fits q) (hf2 : ∀ q ∈ p2,Fits q) (hf3 : ∀ q ∈ p3,Fits q) :
  ∃ (R1 : Nat→Bool) (X1 Y1 : Nat→Int) (R2 : Nat→Bool) (X2 Y2 : Nat→Int) (R3 : Nat→Bool) (X3 Y3 : Nat→Int) (ks : List Kd),n = ks.length∧(∀ k,k < n→Len (kdAt ks k).ch 1)∧(∀ k,k < n→Len (kdAt ks k).me 1)∧(∀ k,k < n→Len (kdAt ks k).sp 1)
   ∧ (∀ i,i < n→∀ W,Calls Tryz.prog 10 #[.agg #[.int .i64 (p1[i]?.getD (0,0)).1,.int .i64 (p1[i]?.getD (0,0)).2]] W fun e w' => e = .returned (.agg #[.bool (R1 i),.int .u64 (X1 i),.int .u64 (Y1 i),.pointer none])∧But [] W w')
   ∧ (∀ i,i < n→∀ W,Calls Tryz.prog 10 #[.agg #[.int .i64 (p2[i]?.getD (0,0)).1,.int .i64 (p2[i]?.getD (0,0)).2]] W fun e w' => e = .returned (.agg #[.bool (R2 i),.int .u64 (X2 i),.int .u64 (Y2 i),.pointer none])∧But [] W w')
   ∧ (∀ i,i < n→∀ W,Calls Tryz.prog 10 #[.agg #[.int .i64 (p3[i]?.getD (0,0)).1,.int .i64 (p3[i]?.getD (0,0)).2]] W fun e w' => e = .returned (.agg #[.bool (R3 i),.int .u64 (X3 i),.int .u64 (Y3 i),.pointer none])∧But [] W w')
   ∧ ∀ B W a c,W.ownsRow B 79 12 (.slice a n c) n ((List.range n).flatMap fun i => [.bool (R1 i),.int .u64 (X1 i),.int .u64 (Y1 i),.pointer none,.bool (R2 i),.int .u64 (X2 i),.int .u64 (Y2 i),.pointer none,.bool (R3 i),.int .u64 (X3 i),.int .u64 (Y3 i),.pointer none])→KindsAt W (.slice a n c) ks:=by
 obtain ⟨R1,X1,Y1,V1⟩:=chF p1 hf1
 obtain ⟨R2,X2,Y2,V2⟩:=chF p2 hf2
 obtain ⟨R3,X3,Y3,V3⟩:=chF p3 hf3
 have hg : ∀ i,i < n→((List.range n).map fun i => Kd.mk (qf (p1[i]?.getD (0,0))) (qf (p2[i]?.getD (0,0))) (qf (p3[i]?.getD (0,0))))[i]? = some ⟨qf (p1[i]?.getD (0,0)),qf (p2[i]?.getD (0,0)),qf (p3[i]?.getD (0,0))⟩:=fun i hi => by
  rw [List.getElem?_map,List.getElem?_range hi]; rfl
 have hA : ∀ i,i < n→kdAt ((List.range n).map fun i => Kd.mk (qf (p1[i]?.getD (0,0))) (qf (p2[i]?.getD (0,0))) (qf (p3[i]?.getD (0,0)))) i = ⟨qf (p1[i]?.getD (0,0)),qf (p2[i]?.getD (0,0)),qf (p3[i]?.getD (0,0))⟩:=fun i hi => by
  unfold kdAt
  rw [hg i hi]; rfl
 refine ⟨R1,X1,Y1,R2,X2,Y2,R3,X3,Y3,(List.range n).map fun i => Kd.mk (qf (p1[i]?.getD (0,0))) (qf (p2[i]?.getD (0,0))) (qf (p3[i]?.getD (0,0))),by simp,fun k hk => ?_,fun k hk => ?_,fun k hk => ?_,fun i hi => (V1 i (by omega)).2.2,fun i hi => (V2 i (by omega)).2.2,fun i hi => (V3 i (by omega)).2.2,fun B W a c ho => ?_⟩
 ·rw [hA k hk]; exact (V1 k (by omega)).1
 ·rw [hA k hk]; exact (V2 k (by omega)).1
 ·rw [hA k hk]; exact (V3 k (by omega)).1
 ·have hl : ((List.range n).map fun i => Kd.mk (qf (p1[i]?.getD (0,0))) (qf (p2[i]?.getD (0,0))) (qf (p3[i]?.getD (0,0)))).length = n:=by simp
  have hcap : n ≤ c:=by
   rcases ho.2 with ⟨h1,h2⟩ | ⟨g,cap,cur,h1,-,-,h2,-⟩
   ·simp only [Value.slice.injEq] at h1
    omega
   ·simp only [Value.slice.injEq] at h1
    omega
  refine ⟨a,c,by rw [hl],by rw [hl]; exact hcap,fun i k hk => ?_⟩
  have hi : i < n:=by
   have:=(List.getElem?_eq_some_iff.1 hk).1
   rw [hl] at this
   exact this
  rw [hg i hi] at hk
  obtain rfl:=Option.some.inj hk
  have hfl:=flat_get (fun i => [.bool (R1 i),.int .u64 (X1 i),.int .u64 (Y1 i),.pointer none,.bool (R2 i),.int .u64 (X2 i),.int .u64 (Y2 i),.pointer none,.bool (R3 i),.int .u64 (X3 i),.int .u64 (Y3 i),.pointer none]) (fun _ => rfl) n i
  rcases ho.2 with ⟨h1,h2⟩ | ⟨g,cap,cur,h1,-⟩
  ·omega
  ·simp only [Value.slice.injEq] at h1
   obtain ⟨rfl,-,-⟩:=h1
   have hcell : ∀ r v,r < 12→([.bool (R1 i),.int .u64 (X1 i),.int .u64 (Y1 i),.pointer none,.bool (R2 i),.int .u64 (X2 i),.int .u64 (Y2 i),.pointer none,.bool (R3 i),.int .u64 (X3 i),.int .u64 (Y3 i),.pointer none] : List Value)[r]? = some v→W.cell? ⟨g,i * 12 + r,none⟩ = some v:=fun r v hr hv => by
    rw [ho.cellAt (i * 12 + r) (by omega)]
    exact (hfl r hi hr).trans hv
   refine ⟨g,0,rfl,R1 i,X1 i,Y1 i,none,R2 i,X2 i,Y2 i,none,R3 i,X3 i,Y3 i,none,?_,(V1 i (by omega)).2.1,(V2 i (by omega)).2.1,(V3 i (by omega)).2.1⟩
   rw [Nat.zero_add]
   exact ⟨⟨hcell 0 _ (by omega) rfl,hcell 1 _ (by omega) rfl,hcell 2 _ (by omega) rfl,hcell 3 _ (by omega) rfl⟩,⟨hcell 4 _ (by omega) rfl,hcell 5 _ (by omega) rfl,hcell 6 _ (by omega) rfl,hcell 7 _ (by omega) rfl⟩,hcell 8 _ (by omega) rfl,hcell 9 _ (by omega) rfl,hcell 10 _ (by omega) rfl,hcell 11 _ (by omega) rfl⟩
/-- what package credit says of kinds and a line, errors and all -/
theorem credit_three (ks : List Kd) (n : Nat) (yr : Int) (hN : n = ks.length) (hn : n ≤ 40) (hy1 : 1 ≤ yr) (hy2 : yr ≤ 120) (lc : ∀ k,k < n→Len (kdAt ks k).ch 1) (lm : ∀ k,k < n→Len (kdAt ks k).me 1) (lp : ∀ k,k < n→Len (kdAt ks k).sp 1) :
  ∃ (ev : Value) (e : Bool) (lb lo : Rat) (AA : Rat→Rat→Rat),EvIs ev e∧Len lb 20000∧Len lo 10000∧(∀ b o,Len b 20000→Len o 10000→Len (AA b o) 1000000)∧(e = false→ev = .nilIface∧(∀ b o,AA lb lo ≤ AA b o)∧0 ≤ lo∧lo ≤ 1)
   ∧ (∀ W a c,KindsAt W (.slice a n c) ks→Calls Tryz.prog 40 #[.slice a n c,.int .i64 yr] W fun e w' => ∃ v,e = .returned (.tuple #[v,ev])∧LineAt lb lo w' v∧But [] W w')
   ∧ ∀ W a c s4 x4 y4 p4 s5 x5 y5 p5 b o,KindsAt W (.slice a n c) ks→FracAt W (.agg #[.bool s4,.int .u64 x4,.int .u64 y4,.pointer p4]) b→FracAt W (.agg #[.bool s5,.int .u64 x5,.int .u64 y5,.pointer p5]) o→Len b 20000→Len o 10000→Calls Tryz.prog 41 #[.slice a n c,.int .i64 yr,.agg #[.bool s4,.int .u64 x4,.int .u64 y4,.pointer p4,.bool s5,.int .u64 x5,.int .u64 y5,.pointer p5]] W fun e w' => ∃ v,e = .returned (.tuple #[v,ev])∧FracAt w' v (AA b o)∧But [] W w':=by
 by_cases hk : kndE ks = 0
 ·obtain ⟨f1,f2⟩:=mix_facts ks yr hk hy1
  obtain ⟨-,-,hne⟩:=own_facts _ _ f1 f2
  obtain ⟨l1,l2,l3⟩:=len_mx ks yr (by omega) hy1 hy2 (by rw [← hN]; exact lc) (by rw [← hN]; exact lm) (by rw [← hN]; exact lp)
  have lO : Len (ownK ks yr) 4000:=len_own l2 l3 hne 4000 (by omega)
  have l11 : Len ((1 : Int) : Rat) 1:=len_int 1 (by omega)
  refine ⟨.nilIface,false,(((1 : Int) : Rat) - ownK ks yr) * mx1 ks,ownK ks yr,amR (mx1 ks) (mx2 ks) (mx3 ks yr),.inl ⟨rfl,rfl⟩,?_,lO.mono (by omega),fun b o hb ho => ?_,fun _ => ⟨rfl,fun b o => (best_line ks yr b o hk hy1).1,(best_line ks yr 0 0 hk hy1).2⟩,fun W a c h => linear_ok a n c ks yr W h hN hn hy1 hy2 lc lm lp hne hk,fun W a c s4 x4 y4 p4 s5 x5 y5 p5 b o h h4 h5 hb ho => (amissTop_ok a n c ks yr W h hN hn hy1 hy2 lc lm lp s4 x4 y4 p4 s5 x5 y5 p5 b o h4 h5 hb ho hk).mono fun e w' ⟨s,x,y,p,he,hf,hbt⟩ => ⟨_,he,hf,hbt⟩⟩
  ·exact len_mul (len_sub l11 lO 4010 (by omega)) (l1.mono (show 500 ≤ 10000 by omega)) _ (by omega)
  ·unfold amR
   have h1:=len_sub l11 ho 10010 (by omega)
   have h2:=len_sub hb (len_mul h1 (l1.mono (show 500 ≤ 10000 by omega)) 20010 (by omega)) 40020 (by omega)
   have h3:=len_mul h2 h2 80040 (by omega)
   have h4:=len_mul (len_mul h1 h1 20020 (by omega)) (l2.mono (show _ ≤ 10000 by omega)) 30020 (by omega)
   have h5:=len_mul (len_mul ho ho 20000 (by omega)) (l3.mono (show _ ≤ 10000 by omega)) 30000 (by omega)
   exact len_add (len_add h3 h4 120000 (by omega)) h5 _ (by omega)
 ·refine ⟨.iface 54 (.int .i64 (kndE ks)),true,0,0,fun _ _ => 0,.inr ⟨_,rfl,rfl⟩,len_zero _ (by omega),len_zero _ (by omega),fun b o _ _ => len_zero _ (by omega),fun h => by simp at h,fun W a c h => (linear_err a n c ks yr W h hN hn hy1 hy2 lc lm lp hk).mono fun e w' ⟨he,hbt⟩ => ⟨_,he,⟨_,_,_,_,_,_,_,_,rfl,zero_at _,zero_at _⟩,hbt⟩,fun W a c s4 x4 y4 p4 s5 x5 y5 p5 b o h h4 h5 hb ho => (amissTop_err a n c ks yr W h hN hn hy1 hy2 lc lm lp s4 x4 y4 p4 s5 x5 y5 p5 hk).mono fun e w' ⟨he,hbt⟩ => ⟨_,he,zero_at _,hbt⟩⟩
theorem rowE_zero (ls : List (List Rat)) (h : rowE ls = 0) : (2 ≤ ls.length∧ls.length ≤ 40)∧∃ m,(2 ≤ m∧m ≤ 40)∧∀ i,i < ls.length→(ls[i]?.getD []).length = m:=by
 unfold rowE at h
 split at h
 ·simp at h
 split at h
 ·simp at h
 rename_i h1 h2
 refine ⟨by omega,(ls[0]?.getD []).length,by omega,fun i hi => ?_⟩
 simp only [List.any_eq_true,not_exists,not_and,bne_iff_ne,ne_eq,Classical.not_not] at h2
 rw [List.getElem?_eq_getElem hi,Option.getD_some]
 exact h2 _ (List.getElem_mem hi)
theorem rows_len (rs : List (List (Int × Int))) (hf : ∀ r ∈ rs,∀ z ∈ r,Fits z) (i j : Nat) (hi : i < rs.length) (hj : j < ((rowsF rs)[i]?.getD []).length) : Len (atR ((rowsF rs)[i]?.getD []) j) 1:=by
 have e : (rowsF rs)[i]?.getD [] = rs[i].map qf:=by
  unfold rowsF
  rw [List.getElem?_map,List.getElem?_eq_getElem hi]; rfl
 rw [e] at hj ⊢
 rw [List.length_map] at hj
 unfold atR
 rw [List.getElem?_map,List.getElem?_eq_getElem hj]
 obtain ⟨-,-,-,h,-⟩:=plainF_at rs[i][j] (hf _ (List.getElem_mem hi) _ (List.getElem_mem hj))
 exact h
end Go.Proofs.YtloojmaamaambaaGreatDoor

namespace Go.Proofs.YtloojmaamaambaaGreatDoor
open Go.RowKit

set_option maxHeartbeats 64000000 in
set_option maxRecDepth 100000 in
theorem best_short (a1 : Option Addr) (n c1 : Nat) (a2 : Option Addr) (n2 c2 : Nat) (a3 : Option Addr) (n3 c3 : Nat) (yy u4 v4 u5 v5 : Int) (a6 : Option Addr) (n6 c6 : Nat) (w : World) (h : 12 < n ∨ n2 < n ∨ n3 < n) : Calls Tryz.prog 8 #[.slice a1 n c1,.slice a2 n2 c2,.slice a3 n3 c3,.int .i64 yy,.agg #[.int .i64 u4,.int .i64 v4],.agg #[.int .i64 u5,.int .i64 v5],.slice a6 n6 c6] w fun e w' => e = .returned (.bool true)∧But [] w w':=by
 by_cases h1 : 12 < n
 ·clear h
  go_enter Tryz.func8,Tryz.ntmps8
  go_wp2
  go_ret
  exact ⟨rfl,((But.refl _ _).alloc _).alloc _⟩
 by_cases h2 : n2 < n
 ·clear h
  go_enter Tryz.func8,Tryz.ntmps8
  go_wp2
  go_ret
  exact ⟨rfl,((But.refl _ _).alloc _).alloc _⟩
 have h3 : n3 < n:=by omega
 clear h
 go_enter Tryz.func8,Tryz.ntmps8
 go_wp2
 go_ret
 exact ⟨rfl,((But.refl _ _).alloc _).alloc _⟩
theorem pick_ltJ (x n : Int) (hn : 0 < n) : ((((if x < 0 then x + 18446744073709551616 else x) % n).toNat : Nat) : Int) < n:=by
 have h1:=Int.emod_lt_of_pos (if x < 0 then x + 18446744073709551616 else x) hn
 have h2:=Int.emod_nonneg (if x < 0 then x + 18446744073709551616 else x) (show n ≠ 0 by omega)
 omega
theorem sgN_up (f : Nat→Nat) : ∀ n k,k ≤ n→sgN f k ≤ sgN f n
 | 0,k,h => by rw [show k = 0 by omega]; exact Nat.le_refl _
 | n + 1,k,h => by
  by_cases e : k = n + 1
  ·rw [e]; exact Nat.le_refl _
  ·exact Nat.le_trans (sgN_up f n k (by omega)) (Nat.le_add_right _ _)
theorem tot_part (rs : List (List (Int × Int))) (n i : Nat) (hi : i < n) : (rs[i]?.getD []).length ≤ totN rs n:=by
 have h1:=sgN_up (fun j => (rs[j]?.getD []).length) n (i + 1) (by omega)
 have h2 : sgN (fun j => (rs[j]?.getD []).length) (i + 1) = sgN (fun j => (rs[j]?.getD []).length) i + (rs[i]?.getD []).length:=rfl
 unfold totN
 omega
/-- what Estimate says of the rows: an error and no premium, or premiums about their mean -/
theorem rows_two (rs : List (List (Int × Int))) (n6 : Nat) (N6 : n6 = rs.length) (b6 : n6 ≤ 80) (hl : ∀ i,i < n6→(rs[i]?.getD []).length ≤ 80) (hf : ∀ r ∈ rs,∀ z ∈ r,Fits z) :
  (∀ W v,ListsAt W v (rowsF rs)→∃ a c,v = .slice a n6 c) ∧
  ((∃ z,∀ W a c,ListsAt W (.slice a n6 c) (rowsF rs)→Calls Tryz.prog 43 #[.slice a n6 c] W fun e w' => ∃ s1 x1 y1 p1 s2 x2 y2 p2 s3 x3 y3 p3 s4 x4 y4 p4,e = .returned (.tuple #[.agg #[.bool s1,.int .u64 x1,.int .u64 y1,.pointer p1,.bool s2,.int .u64 x2,.int .u64 y2,.pointer p2,.bool s3,.int .u64 x3,.int .u64 y3,.pointer p3,.bool s4,.int .u64 x4,.int .u64 y4,.pointer p4,.slice none 0 0],.iface 54 (.int .i64 z)])∧But [] W w') ∨
  (2 ≤ n6∧∃ fA fW fB fO F,sgR F n6 = fA * (((n6 : Nat) : Int) : Rat)∧Len fA 3322∧(∀ j,j < n6→Len (F j) 100000)∧(∀ k,k ≤ n6→Len (sgR F k) 100000)∧∀ W a c,ListsAt W (.slice a n6 c) (rowsF rs)→Calls Tryz.prog 43 #[.slice a n6 c] W fun e w' => ∃ v,e = .returned (.tuple #[v,.nilIface])∧FoundAt fA fW fB fO W.heap.size n6 F w' v∧But [] W w')):=by
 have hlen : (rowsF rs).length = n6:=by unfold rowsF; rw [List.length_map]; exact N6.symm
 have hrow : ∀ i,i < n6→((rowsF rs)[i]?.getD []).length = (rs[i]?.getD []).length:=fun i hi => by
  unfold rowsF
  rw [List.getElem?_map,List.getElem?_eq_getElem (by omega)]
  simp
 refine ⟨fun W v h => ?_,?_⟩
 ·obtain ⟨a,c,e,-⟩:=h
  exact ⟨a,c,by rw [← hlen]; exact e⟩
 by_cases hr : rowE (rowsF rs) = 0
 ·obtain ⟨⟨n1,n2⟩,m,⟨m1,m2⟩,hm⟩:=rowE_zero _ hr
  rw [hlen] at n1 n2 hm
  have lf : ∀ i j,i < n6→j < m→Len (atR ((rowsF rs)[i]?.getD []) j) 1:=fun i j hi hj => rows_len rs hf i j (by omega) (by rw [hm i hi]; exact hj)
  obtain ⟨-,-,hne,hsum⟩:=es_facts (rowsF rs) m n6 m1 n1
  obtain ⟨l1,l2,l3⟩:=es_len (rowsF rs) m n6 m1 m2 n1 n2 lf
  refine .inr ⟨n1,esA (rowsF rs) m n6,esW (rowsF rs) m n6,esB (rowsF rs) m n6,esO (rowsF rs) m n6,esP (rowsF rs) m n6,hsum,l1,l2,l3,fun W a c h => ?_⟩
  obtain ⟨b,off,u,ha,-,-⟩ : ∃ b off u,a = some ⟨b,off,none⟩∧W.cell? ⟨b,off + 0,none⟩ = some u∧FracsAt W u (rowsF rs)[0]:=by
   obtain ⟨a',c',e,-,h'⟩:=id h
   simp only [Value.slice.injEq] at e
   obtain ⟨rfl,-,-⟩:=e
   exact h' 0 _ (List.getElem?_eq_getElem (by omega))
  subst ha
  exact estimate_ok b off c n6 m (rowsF rs) W h hlen.symm hm n1 n2 m1 m2 lf hne hr
 ·exact .inl ⟨rowE (rowsF rs),fun W a c h => (estimate_err a n6 c (rowsF rs) W h hlen.symm (by omega) (fun i hi => by rw [hrow i hi]; have:=hl i hi; omega) hr).mono fun e w' ⟨he,hb⟩ => ⟨_,_,_,_,_,_,_,_,_,_,_,_,_,_,_,_,he,hb⟩⟩
set_option maxHeartbeats 64000000 in
set_option maxRecDepth 100000 in
theorem best_much (a1 : Option Addr) (n c1 : Nat) (a2 : Option Addr) (n2 c2 : Nat) (a3 : Option Addr) (n3 c3 : Nat) (yy u4 v4 u5 v5 : Int) (a6 : Option Addr) (n6 c6 : Nat) (rs : List (List (Int × Int))) (w : World) (hn : n ≤ 12) (hn2 : n ≤ n2) (hn3 : n ≤ n3) (hq : QrowsAt w (.slice a6 n6 c6) rs) (_N6 : n6 = rs.length) (b6 : n6 ≤ 2000000) (tk : ∀ k,k ≤ n6→totN rs k ≤ 2000000) (ht : ¬ 1 + n6 + totN rs n6 ≤ 80) : Calls Tryz.prog 8 #[.slice a1 n c1,.slice a2 n2 c2,.slice a3 n3 c3,.int .i64 yy,.agg #[.int .i64 u4,.int .i64 v4],.agg #[.int .i64 u5,.int .i64 v5],.slice a6 n6 c6] w fun e w' => e = .returned (.bool true)∧But [] w w':=by
 have FEW:=hide (fun W g (hc : W.cell? ⟨g,0,none⟩ = some (.slice a6 n6 c6)) (h : But [] w W) => few_any g a6 n6 c6 rs W hc (hq.but h) b6 tk)
 rw [decide_eq_false ht] at FEW
 clear ht tk b6 hq _N6
 go_enter Tryz.func8,Tryz.ntmps8
 go_wp2_with fail
 refine (unhide FEW _ _ ?_ ?_).mono ?_
 ·rw [show w.heap.size + 1 + 1 = ((w.alloc (.cells #[.int .i64 u4,.int .i64 v4] 23)).alloc (.cells #[.int .i64 u5,.int .i64 v5] 23)).heap.size by simp,World.cell?_alloc_new]
  rfl
 ·exact ((But.refl _ _).alloc _).alloc _ |>.alloc _
 rintro e w1 ⟨rfl,hb1⟩
 have B1 : Hid (But [] w w1):=(((But.refl _ _).alloc _).alloc _ |>.alloc _).trans' hb1
 clear hb1 FEW
 go_wp2
 go_ret
 exact ⟨rfl,unhide B1⟩
theorem best_ok (w6 : World) (g18 g20 g22 : Nat) (q4 q5 lb lo : Rat) (AA : Rat→Rat→Rat) (hb : ∀ b o,AA lb lo ≤ AA b o) (lo1 : 0 ≤ lo) (lo2 : lo ≤ 1) (LEN : Len q4 1∧Len q5 1∧Len lb 20000∧Len lo 10000∧∀ b o,Len b 20000→Len o 10000→Len (AA b o) 1000000) (s1 : Bool) (x1 y1 : Int) (p1 : Option Addr) (s2 : Bool) (x2 y2 : Int) (p2 : Option Addr) (s3 : Bool) (x3 y3 : Int) (p3 : Option Addr) (P20 : P4 w6 g20 s1 x1 y1 p1) (P22 : P4 w6 g22 s2 x2 y2 p2) (P18 : P4o w6 g18 4 s3 x3 y3 p3) (F20 : FracAt w6 (.agg #[.bool s1,.int .u64 x1,.int .u64 y1,.pointer p1]) (AA lb lo)) (F22 : FracAt w6 (.agg #[.bool s2,.int .u64 x2,.int .u64 y2,.pointer p2]) (AA q4 q5)) (F18 : FracAt w6 (.agg #[.bool s3,.int .u64 x3,.int .u64 y3,.pointer p3]) lo) : ∃ z1 z2 z3 s1 x1 y1 p1 s2 x2 y2 p2 s3 x3 y3 p3,BestOk w6 g18 g20 g22 z1 z2 z3 s1 x1 y1 p1 s2 x2 y2 p2 s3 x3 y3 p3:=by
 obtain ⟨ws,wx,FW,CW⟩:=whole_is 1 (by omega) (by omega)
 rw [show ((1 : Int) : Rat) = 1 from rfl] at FW
 obtain ⟨z1,hz1⟩ : ∃ z1,z1 = cmpZ ((AA lb lo).num * ((AA q4 q5).den : Int)) ((AA q4 q5).num * ((AA lb lo).den : Int)):=⟨_,rfl⟩
 obtain ⟨z3,hz3⟩ : ∃ z3,z3 = cmpZ (lo.num * ((1 : Rat).den : Int)) ((1 : Rat).num * (lo.den : Int)):=⟨_,rfl⟩
 have z1n : z1 ≤ 0:=by
  have h1:=(cmpZ_tells _ _ z1 hz1).2.1
  have h2:=hb q4 q5
  by_cases h : 0 < z1
  ·exact absurd (h1.1 h) (Rat.not_lt.2 h2)
  ·omega
 have z3n : z3 ≤ 0:=by
  have h1:=(cmpZ_tells _ _ z3 hz3).2.1
  by_cases h : 0 < z3
  ·exact absurd (h1.1 h) (Rat.not_lt.2 lo2)
  ·omega
 have z2n : 0 ≤ lo.num.sign:=by
  have:=Rat.num_nonneg.2 lo1
  by_cases h0 : lo.num = 0
  ·rw [h0]; decide
  ·rw [Int.sign_eq_one_of_pos (by omega)]; decide
 obtain ⟨l4,l5,llb,llo,lA⟩:=LEN
 have la1:=lA lb lo llb llo
 have la2:=lA q4 q5 (l4.mono (by omega)) (l5.mono (by omega))
 exact ⟨z1,lo.num.sign,z3,s1,x1,y1,p1,s2,x2,y2,p2,s3,x3,y3,p3,z1n,z2n,z3n,P20,P22,P18,fun W hb => fracCmp_any _ _ _ _ W (F20.but hb) (F22.but hb) (la1.mono (by omega)) (la2.mono (by omega)) z1 hz1,fun W hb => fracSign_any _ _ W (F18.but hb),fun W hb => (CW W).mono fun e w' ⟨he,hb⟩ => ⟨_,he,FW w',hb⟩,fun W v hb hv => fracCmp_any _ _ _ _ W (F18.but hb) hv (llo.mono (by omega)) ((len_int 1 (by omega)).mono (show 1 ≤ 33554431 by omega)) z3 hz3⟩
end Go.Proofs.YtloojmaamaambaaGreatDoor
