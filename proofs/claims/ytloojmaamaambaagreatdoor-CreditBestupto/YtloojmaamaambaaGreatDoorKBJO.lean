/- The best line, and premiums about their mean: what the law CreditBest says of whole fractions. -/
import Derived.Test.YtloojmaamaambaaGreatDoorKBJF
import Derived.Test.YtloojmaamaambaaGreatDoorKBJK
namespace Go.Proofs.YtloojmaamaambaaGreatDoor
open Go.RowKit

theorem inv_nn {x : Rat} (h : 0 ≤ x) : 0 ≤ x⁻¹:=by
 by_cases e : x = 0
 ·rw [e,Rat.inv_zero]; exact Rat.le_refl
 ·exact Rat.le_of_lt (Rat.inv_pos.2 (Rat.lt_of_le_of_ne h (Ne.symm e)))
theorem num_of_nonneg {x : Rat} (h : ¬ x.num < 0) : 0 ≤ x:=Rat.num_nonneg.1 (by omega)
theorem own_facts (b d : Rat) (hb : 0 ≤ b) (hd : 0 ≤ d) : (b = 0→ownR b d = 0)∧(b ≠ 0→ownR b d * (b + d) = b)∧(b.num ≠ 0→(b + d).num ≠ 0):=by
 have hn : b ≠ 0→b + d ≠ 0:=fun h e => h (by grind)
 refine ⟨fun h => by unfold ownR; rw [h]; rfl,fun h => ?_,fun h e => ?_⟩
 ·unfold ownR
  rw [if_neg (fun e => h (Rat.num_eq_zero.1 e)),Rat.div_mul_cancel (hn h)]
 ·exact hn (fun e2 => h (by rw [e2]; rfl)) (Rat.num_eq_zero.1 e)
theorem kinds_facts (ks : List Kd) (hk : kndE ks = 0) : (∀ j,j < ks.length→0 ≤ (kdAt ks j).ch)∧(∀ j,j < ks.length→0 ≤ (kdAt ks j).sp)∧sgR (fun j => (kdAt ks j).ch) ks.length = 1:=by
 unfold kndE at hk
 split at hk
 ·simp at hk
 split at hk
 ·simp at hk
 rename_i h2
 split at hk
 ·rename_i h3
  have h4 : ∀ k ∈ ks,¬ k.ch.num < 0∧¬ k.sp.num < 0:=fun k hm => by
   simp only [List.any_eq_true,not_exists,not_and,Bool.or_eq_true,decide_eq_true_eq,not_or] at h2
   exact h2 k hm
  refine ⟨fun j hj => num_of_nonneg (h4 _ (kd_mem hj)).1,fun j hj => num_of_nonneg (h4 _ (kd_mem hj)).2,?_⟩
  have h5 : mkR ks (fun _ => ((1 : Int) : Rat)) ks.length = sgR (fun j => (kdAt ks j).ch) ks.length:=sgR_congr _ _ _ (fun k _ => by
   show (kdAt ks k).ch * ((1 : Int) : Rat) = _
   rw [show ((1 : Int) : Rat) = 1 from rfl,Rat.mul_one])
  rw [← h5,h3]; rfl
 ·simp at hk
theorem mix_facts (ks : List Kd) (yr : Int) (hk : kndE ks = 0) (hy : 1 ≤ yr) : 0 ≤ mx2 ks∧0 ≤ mx3 ks yr:=by
 obtain ⟨h1,h2,h3⟩:=kinds_facts ks hk
 refine ⟨var_nonneg (fun j => (kdAt ks j).ch) (fun j => (kdAt ks j).me) ks.length h1 h3,?_⟩
 have h4 : 0 ≤ mkR ks (fun k => k.sp) ks.length:=sgR_nonneg _ _ (fun j hj => Rat.mul_nonneg (h1 j hj) (h2 j hj))
 unfold mx3
 rw [Rat.div_def]
 exact Rat.mul_nonneg h4 (inv_nn (by
  have : ((0 : Int) : Rat) ≤ ((yr : Int) : Rat):=Rat.intCast_le_intCast.2 (by omega)
  exact this))
theorem best_line (ks : List Kd) (yr : Int) (b o : Rat) (hk : kndE ks = 0) (hy : 1 ≤ yr) : amR (mx1 ks) (mx2 ks) (mx3 ks yr) ((((1 : Int) : Rat) - ownK ks yr) * mx1 ks) (ownK ks yr) ≤ amR (mx1 ks) (mx2 ks) (mx3 ks yr) b o∧0 ≤ ownK ks yr∧ownK ks yr ≤ 1:=by
 obtain ⟨h1,h2⟩:=mix_facts ks yr hk hy
 obtain ⟨f1,f2,-⟩:=own_facts _ _ h1 h2
 exact line_best (mx1 ks) (mx2 ks) (mx3 ks yr) (ownK ks yr) b o h1 h2 f1 f2
theorem int_pos {n : Nat} (h : 0 < n) : 0 < (((n : Nat) : Int) : Rat):=by
 have : ((0 : Int) : Rat) < (((n : Nat) : Int) : Rat):=Rat.intCast_lt_intCast.2 (by omega)
 exact this
theorem sg_one (c : Rat) : ∀ k : Nat,sgR (fun _ => c) k = (((k : Nat) : Int) : Rat) * c
 | 0 => by
  rw [show (((0 : Nat) : Int) : Rat) = 0 from rfl,Rat.zero_mul]; rfl
 | k + 1 => by
  show sgR (fun _ => c) k + c = _
  rw [sg_one c k,Int.natCast_add,Rat.intCast_add,Rat.add_mul,show (((1 : Nat) : Int) : Rat) = 1 from rfl,Rat.one_mul]
theorem sp_nonneg (f : Nat→Rat) (n : Nat) (hn : 2 ≤ n) : 0 ≤ spR f n:=by
 have hp : 0 < (((n : Nat) : Int) : Rat):=int_pos (by omega)
 have hp1 : 0 < (((n - 1 : Nat) : Int) : Rat):=int_pos (by omega)
 generalize hN : (((n : Nat) : Int) : Rat) = N at hp
 have hne : N ≠ 0:=fun e => by rw [e] at hp; exact absurd hp (by decide)
 have h0:=var_nonneg (fun _ => N⁻¹) f n (fun _ _ => inv_nn (Rat.le_of_lt hp)) (by rw [sg_one,hN,Rat.mul_inv_cancel _ hne])
 have e1 : sgR (fun j => N⁻¹ * (f j * f j)) n = sgR (fun j => f j * f j) n * N⁻¹:=by
  rw [← sgR_times]
  exact sgR_congr _ _ _ (fun k _ => Rat.mul_comm _ _)
 have e2 : sgR (fun j => N⁻¹ * f j) n = sgR f n * N⁻¹:=by
  rw [← sgR_times]
  exact sgR_congr _ _ _ (fun k _ => Rat.mul_comm _ _)
 rw [e1,e2] at h0
 have h1:=Rat.mul_nonneg h0 (Rat.le_of_lt hp)
 unfold spR
 rw [hN,Rat.div_def (_ - _)]
 refine Rat.mul_nonneg ?_ (inv_nn (Rat.le_of_lt hp1))
 rw [Rat.div_def]
 have hi : N⁻¹ * N = 1:=Rat.inv_mul_cancel _ hne
 generalize N⁻¹ = I at *
 generalize sgR (fun j => f j * f j) n = S2 at *
 generalize sgR f n = S1 at *
 have : (S2 * I - S1 * I * (S1 * I)) * N = S2 - S1 * I * S1:=by grind
 rwa [this] at h1
theorem div_nonneg {a b : Rat} (ha : 0 ≤ a) (hb : 0 ≤ b) : 0 ≤ a / b:=by
 rw [Rat.div_def]
 exact Rat.mul_nonneg ha (inv_nn hb)
theorem es_facts (ls : List (List Rat)) (m n : Nat) (hm : 2 ≤ m) (hn : 2 ≤ n) : 0 ≤ esB ls m n∧0 ≤ esD ls m n∧((esB ls m n).num ≠ 0→(esB ls m n + esD ls m n).num ≠ 0)∧sgR (esP ls m n) n = esA ls m n * (((n : Nat) : Int) : Rat):=by
 have h1 : 0 ≤ esB ls m n:=by
  unfold esB max0
  split
  ·assumption
  ·exact Rat.le_refl
 have h2 : 0 ≤ esD ls m n:=div_nonneg (div_nonneg (sgR_nonneg _ _ (fun i _ => sp_nonneg _ _ hm)) (Rat.le_of_lt (int_pos (by omega)))) (Rat.le_of_lt (int_pos (by omega)))
 have hp:=int_pos (n:=n) (by omega)
 refine ⟨h1,h2,(own_facts _ _ h1 h2).2.2,premiums_mean (rmR ls m) n (esA ls m n) (esO ls m n) (by omega) (Rat.div_mul_cancel (fun e => by rw [e] at hp; exact absurd hp (by decide)))⟩
/-- what premiums are together, as far as one has come -/
theorem sg_prem (x : Nat→Rat) (a o : Rat) : ∀ k : Nat,sgR (fun j => a + o * (x j - a)) k = (((k : Nat) : Int) : Rat) * a + o * (sgR x k - (((k : Nat) : Int) : Rat) * a)
 | 0 => by
  rw [show (((0 : Nat) : Int) : Rat) = 0 from rfl,Rat.zero_mul]
  show (0 : Rat) = 0 + o * (0 - 0)
  grind
 | k + 1 => by
  show sgR (fun j => a + o * (x j - a)) k + (a + o * (x k - a)) = _
  rw [sg_prem x a o k,Int.natCast_add,Rat.intCast_add,show (((1 : Nat) : Int) : Rat) = 1 from rfl]
  show _ = _ + o * ((sgR x k + x k) - _)
  grind
theorem es_len (ls : List (List Rat)) (m n : Nat) (hm : 2 ≤ m) (hm2 : m ≤ 40) (hn : 2 ≤ n) (hn2 : n ≤ 40) (lf : ∀ i j,i < n→j < m→Len (atR (ls[i]?.getD []) j) 1) : Len (esA ls m n) 3322∧(∀ j,j < n→Len (esP ls m n j) 100000)∧∀ k,k ≤ n→Len (sgR (esP ls m n) k) 100000:=by
 have hr : ∀ i,i < n→Len (rmR ls m i) 82:=fun i hi => (len_list _ m 1 hm hm2 (fun j hj => lf i j hi hj)).1
 have hs : ∀ i,i < n→Len (rsR ls m i) 330:=fun i hi => (len_list _ m 1 hm hm2 (fun j hj => lf i j hi hj)).2.1
 obtain ⟨lA,lS,lK,-⟩:=len_list (rmR ls m) n 82 hn hn2 hr
 have lW:=(len_list (rsR ls m) n 330 hn hn2 hs).1
 have nm : (((m : Nat) : Int) : Rat).num ≠ 0:=by rw [(int_parts (m : Int)).1]; omega
 have lD : Len (esD ls m n) 13243:=len_div lW (len_int (m : Int) (by omega)) nm _ (by omega)
 have lB : Len (esB ls m n) 26534:=len_max0 (len_sub lS lD _ (by omega)) (by omega)
 have lO : Len (esO ls m n) 66312:=len_own lB lD (es_facts ls m n hm hn).2.2.1 _ (by omega)
 refine ⟨lA.mono (by omega),fun j hj => ?_,fun k hk => ?_⟩
 ·exact len_add lA (len_mul lO (len_sub (hr j hj) lA 3405 (by omega)) 69717 (by omega)) _ (by omega)
 ·have e : sgR (esP ls m n) k = _:=sg_prem (rmR ls m) (esA ls m n) (esO ls m n) k
  rw [e]
  have lk : Len ((((k : Nat) : Int) : Rat) * esA ls m n) 3323:=len_mul (len_int (k : Int) (by omega)) lA _ (by omega)
  exact len_add lk (len_mul lO (len_sub (lK k hk) lk 6645 (by omega)) 72957 (by omega)) _ (by omega)
end Go.Proofs.YtloojmaamaambaaGreatDoor

namespace Go.Proofs.YtloojmaamaambaaGreatDoor
open Go.RowKit

set_option maxHeartbeats 2000000 in
theorem pick_gen (a n : Int) (h1 : -9223372036854775808 ≤ a) (h2 : a < 9223372036854775808) (hn : 0 < n) (hn2 : n < 9223372036854775808) (w : World) :
  Calls Tryz.prog 9 #[.int .i64 a,.int .i64 n] w fun e w' => e = .returned (.int .i64 ((((if a < 0 then a + 18446744073709551616 else a) % n).toNat : Nat) : Int))∧But [] w w':=by
 obtain ⟨u,hu⟩ : ∃ u : Int,u = if a < 0 then a + 18446744073709551616 else a:=⟨_,rfl⟩
 have u1 : 0 ≤ u∧u < 18446744073709551616:=by rw [hu]; split <;> omega
 have e1 : IntKind.u64.wrap a = u:=by rw [IntKind.wrap_u64,hu]; split <;> omega
 rw [← hu]
 have e2:=Int.emod_nonneg u (show n ≠ 0 by omega)
 have e3:=Int.emod_lt_of_pos u hn
 clear hu
 have e5 : u.tmod n = u % n:=Int.tmod_eq_emod_of_nonneg u1.1
 obtain ⟨m,hm⟩ : ∃ m,m = u % n:=⟨_,rfl⟩
 rw [← hm] at e2 e3 e5 ⊢
 have e4 : ((m.toNat : Nat) : Int) = m:=by omega
 rw [e4]
 have e6 : IntKind.i64.wrap m = m:=by rw [IntKind.wrap_i64]; omega
 have e7 : IntKind.u64.wrap n = n:=by rw [IntKind.wrap_u64]; omega
 have e8 : IntKind.u64.wrap m = m:=by rw [IntKind.wrap_u64]; omega
 have n0 : (n == 0) = false:=beq_eq_false_iff_ne.2 (by omega)
 have n1 : n ≠ 0:=by omega
 clear e4 hm
 go_enter Tryz.func9,Tryz.ntmps9
 go_wp2
 go_ret
 exact ⟨rfl,But.refl _ _⟩
end Go.Proofs.YtloojmaamaambaaGreatDoor

namespace Go.Proofs.YtloojmaamaambaaGreatDoor
open Go.RowKit

theorem half_facts (f : Rat) (h : f.num * 4 = 2 * f.den) : f.num = 1∧f.den = 2:=rat_of_coprime 1 2 (by omega) (by decide) f (by omega)
theorem two_halves (f : Rat) (h1 : f.num = 1) (h2 : f.den = 2) : (f + f).num = 1∧(f + f).den = 1:=by
 have h:=cross_add f f
 rw [h1,h2] at h
 exact rat_of_coprime 1 1 (by omega) (by decide) (f + f) (by omega)
theorem dec1 : Lib.decDigits 1 = [49]:=by rw [Lib.decDigits]; simp
theorem dec2 : Lib.decDigits 2 = [50]:=by rw [Lib.decDigits]; simp
theorem txt_half : fracTxt false 1 2 = ⟨#[49,47,50]⟩:=by unfold fracTxt; rw [dec1,dec2]; rfl
theorem txt_one : fracTxt false 1 1 = ⟨#[49]⟩:=by unfold fracTxt; rw [dec1]; rfl

set_option maxHeartbeats 8000000 in
set_option maxRecDepth 100000 in
theorem half_any (w : World) (htab : Lib.TabIs Tryz.prog w "internal/strconv.uint64pow10" .u64 Lib.pow10Tab) :
  Calls Tryz.prog 42 #[] w fun e w' => e = .returned (.bool true)∧But [] w w':=by
 obtain ⟨f,r,p,q,h1,h2,h3,h4⟩:=fracOf_at 2 4 (by omega) (by omega) (by omega) (by omega) (by omega)
 obtain ⟨e1,e2⟩:=half_facts f h2
 obtain ⟨e3,e4⟩:=two_halves f e1 e2
 have OF:=hide h4
 have hl:=len_add h1 h1 3 (by omega)
 obtain ⟨n1,n2⟩:=len_small h1 (by omega)
 obtain ⟨n3,n4⟩:=len_small hl (by omega)
 have TF : Hid (∀ W,But [] w W→Calls Tryz.prog 59 #[.agg #[.bool r,.int .u64 p,.int .u64 q,.pointer none]] W fun e w' => e = .returned (.string ⟨#[49,47,50]⟩)∧But [] W w'):=fun W h => fracText_at _ f W (h3 W) n1 n2 (TabIs.but htab h) _ (by show _ = _; rw [e1,e2]; exact txt_half.symm)
 have AD : Hid (∀ W,But [] w W→Calls Tryz.prog 22 #[.agg #[.bool r,.int .u64 p,.int .u64 q,.pointer none],.agg #[.bool r,.int .u64 p,.int .u64 q,.pointer none]] W fun e w' => ∃ v,e = .returned v∧FracAt w' v (f + f)∧But [] W w'):=fun W _ => fracAdd_any _ _ f f W (h3 W) (h3 W) (h1.mono (by omega)) (h1.mono (by omega))
 have T2 : Hid (∀ W v,But [] w W→FracAt W v (f + f)→Calls Tryz.prog 59 #[v] W fun e w' => e = .returned (.string ⟨#[49]⟩)∧But [] W w'):=fun W v h hv => fracText_at _ (f + f) W hv n3 n4 (TabIs.but htab h) _ (by show _ = _; rw [e3,e4]; exact txt_one.symm)
 clear h1 h2 h3 h4 e1 e2 e3 e4 hl n1 n2 n3 n4 htab
 go_enter Tryz.func42,Tryz.ntmps42
 go_wp2_with fail
 refine (unhide OF _).mono ?_
 rintro e w0 ⟨rfl,hb0⟩
 have HB0:=hide hb0
 clear hb0
 go_wp2_with fail
 obtain ⟨W,hW⟩ : ∃ W,W = w0.alloc (.cells #[.bool r,.int .u64 p,.int .u64 q,.pointer none] 29):=⟨_,rfl⟩
 have a0 : W.cell? ⟨w0.heap.size,0,none⟩ = some (.bool r):=by rw [hW]; simp
 have a1 : W.cell? ⟨w0.heap.size,1,none⟩ = some (.int .u64 p):=by rw [hW]; simp
 have a2 : W.cell? ⟨w0.heap.size,2,none⟩ = some (.int .u64 q):=by rw [hW]; simp
 have a3 : W.cell? ⟨w0.heap.size,3,none⟩ = some (.pointer none):=by rw [hW]; simp
 have HB : Hid (But [] w W):=by show But _ _ _; rw [hW]; exact (unhide HB0).alloc _
 rw [← hW]
 clear hW HB0
 generalize w0.heap.size = gf at *
 refine (unhide TF _ (unhide HB)).mono ?_
 rintro e w1 ⟨rfl,hc1⟩
 have B1 : But [] W w1:=hc1
 have k0:=B1.cell_some a0 (by simp)
 have k1:=B1.cell_some a1 (by simp)
 have k2:=B1.cell_some a2 (by simp)
 have k3:=B1.cell_some a3 (by simp)
 have HB1 : Hid (But [] w w1):=(unhide HB).trans' B1
 clear hc1 B1
 go_wp2_with fail
 refine (unhide AD _ (unhide HB1)).mono ?_
 rintro e w2 ⟨v2,rfl,hn2,hc2⟩
 have HB2 : Hid (But [] w w2):=(unhide HB1).trans' hc2
 have HN2:=hide hn2
 clear hc2 hn2
 go_wp2_with fail
 refine (unhide T2 _ v2 (unhide HB2) (unhide HN2)).mono ?_
 rintro e w3 ⟨rfl,hc3⟩
 have HB3 : Hid (But [] w w3):=(unhide HB2).trans' hc3
 clear hc3
 go_wp2
 go_ret
 exact ⟨rfl,unhide HB3⟩
end Go.Proofs.YtloojmaamaambaaGreatDoor
