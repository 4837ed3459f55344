/- What rows tell, where they may be, as the Go text of package credit finds it. -/
import Derived.Test.YtloojmaamaambaaGreatDoorKBJI
namespace Go.Proofs.YtloojmaamaambaaGreatDoor
open Go.RowKit

/-- a row's mean, and how much it is spread -/
def rmR (ls : List (List Rat)) (m i : Nat) : Rat:=sgR (atR (ls[i]?.getD [])) m / (((m : Nat) : Int) : Rat)
def rsR (ls : List (List Rat)) (m i : Nat) : Rat:=spR (atR (ls[i]?.getD [])) m
def esA (ls : List (List Rat)) (m n : Nat) : Rat:=sgR (rmR ls m) n / (((n : Nat) : Int) : Rat)
def esW (ls : List (List Rat)) (m n : Nat) : Rat:=sgR (rsR ls m) n / (((n : Nat) : Int) : Rat)
def esD (ls : List (List Rat)) (m n : Nat) : Rat:=esW ls m n / (((m : Nat) : Int) : Rat)
def esB (ls : List (List Rat)) (m n : Nat) : Rat:=max0 (spR (rmR ls m) n - esD ls m n)
def esO (ls : List (List Rat)) (m n : Nat) : Rat:=ownR (esB ls m n) (esD ls m n)
def esP (ls : List (List Rat)) (m n j : Nat) : Rat:=esA ls m n + esO ls m n * (rmR ls m j - esA ls m n)
theorem spR_congr (f g : Nat→Rat) (n : Nat) (h : ∀ k,k < n→f k = g k) : spR f n = spR g n:=by
 unfold spR
 rw [sgR_congr f g n h,sgR_congr (fun j => f j * f j) (fun j => g j * g j) n (fun k hk => by rw [h k hk])]
theorem len_sgB (c : Nat) (f : Nat→Rat) (n : Nat) (h : ∀ k,k < n→Len (f k) c) : ∀ k,k ≤ n→Len (sgR f k) (k * (c + 1) + 1)
 | 0,_ => len_zero _ (by omega)
 | k + 1,hk => by
  have ih:=len_sgB c f n h k (by omega)
  show Len (sgR f k + f k) _
  exact len_add ih (h k (by omega)) _ (by rw [Nat.succ_mul]; omega)
/-- lengths of what one list tells -/
theorem len_list (f : Nat→Rat) (n c : Nat) (hn0 : 2 ≤ n) (hn : n ≤ 40) (h : ∀ k,k < n→Len (f k) c) : Len (sgR f n / (((n : Nat) : Int) : Rat)) (40 * (c + 1) + 2)∧Len (spR f n) (160 * (c + 1) + 10)∧(∀ k,k ≤ n→Len (sgR f k) (40 * (c + 1) + 1))∧∀ k,k ≤ n→Len (sgR (fun j => f j * f j) k) (40 * (2 * c + 1) + 1):=by
 have a1 : ∀ k,k ≤ n→Len (sgR f k) (40 * (c + 1) + 1):=fun k hk => (len_sgB c f n h k hk).mono (by have:=Nat.mul_le_mul (show k ≤ 40 by omega) (Nat.le_refl (c + 1)); omega)
 have a2 : ∀ k,k ≤ n→Len (sgR (fun j => f j * f j) k) (40 * (2 * c + 1) + 1):=fun k hk => (len_sgB (2 * c) (fun j => f j * f j) n (fun j hj => len_mul (h j hj) (h j hj) (2 * c) (by omega)) k hk).mono (by have:=Nat.mul_le_mul (show k ≤ 40 by omega) (Nat.le_refl (2 * c + 1)); omega)
 have a3 : Len (sgR f n / (((n : Nat) : Int) : Rat)) (40 * (c + 1) + 2):=len_div (a1 n (Nat.le_refl _)) (len_int (n : Int) (by omega)) (by rw [(int_parts (n : Int)).1]; omega) _ (by omega)
 refine ⟨a3,?_,a1,a2⟩
 have b1:=len_mul a3 (a1 n (Nat.le_refl _)) (80 * (c + 1) + 3) (by omega)
 have b2:=len_sub (a2 n (Nat.le_refl _)) b1 (160 * (c + 1) + 9) (by omega)
 exact len_div b2 (len_int ((n - 1 : Nat) : Int) (by omega)) (by rw [(int_parts ((n - 1 : Nat) : Int)).1]; omega) _ (by omega)
theorem row_fracs {w : World} {g n : Nat} {F : Nat→Rat} (h : RowOf w g n F) : FracsAt w (.slice (some ⟨g,0,none⟩) n n) ((List.range n).map F):=h.fracs
theorem sp_row (F : Nat→Rat) (n : Nat) : spR (atR ((List.range n).map F)) n = spR F n:=spR_congr _ _ n (fun k hk => atR_map F n k hk)
theorem sg_row (F : Nat→Rat) (n k : Nat) (hk : k ≤ n) : sgR (atR ((List.range n).map F)) k = sgR F k:=sgR_congr _ _ k (fun j hj => atR_map F n j (by omega))
theorem sq_row (F : Nat→Rat) (n k : Nat) (hk : k ≤ n) : sgR (fun j => atR ((List.range n).map F) j * atR ((List.range n).map F) j) k = sgR (fun j => F j * F j) k:=sgR_congr _ _ k (fun j hj => by rw [atR_map F n j (by omega)])
/-- mean and spread of a row of the call's own -/
theorem meanRow_any (g n c : Nat) (F : Nat→Rat) (w : World) (h : RowOf w g n F) (hn0 : 2 ≤ n) (hn : n ≤ 40) (hc : c ≤ 400) (lf : ∀ k,k < n→Len (F k) c) :
  Calls Tryz.prog 111 #[.slice (some ⟨g,0,none⟩) n n] w fun e w' => ∃ v,e = .returned v∧FracAt w' v (sgR F n / (((n : Nat) : Int) : Rat))∧But [] w w':=by
 obtain ⟨-,-,l1,l2⟩:=len_list F n c hn0 hn lf
 have:=creditMean_any g 0 n n _ w (row_fracs h) (by omega) (by omega) (fun k hk => by rw [atR_map F n k hk]; exact (lf k hk).mono (by omega)) (fun k hk => by rw [sg_row F n k hk]; exact (l1 k hk).mono (by omega))
 rw [sg_row F n n (Nat.le_refl _)] at this
 exact this
theorem spreadRow_any (g n c : Nat) (F : Nat→Rat) (w : World) (h : RowOf w g n F) (hn0 : 2 ≤ n) (hn : n ≤ 40) (hc : c ≤ 400) (lf : ∀ k,k < n→Len (F k) c) :
  Calls Tryz.prog 112 #[.slice (some ⟨g,0,none⟩) n n] w fun e w' => ∃ v,e = .returned v∧FracAt w' v (spR F n)∧But [] w w':=by
 obtain ⟨-,-,l1,l2⟩:=len_list F n c hn0 hn lf
 have:=spread_any g 0 n n _ w (row_fracs h) hn0 (by omega) (fun k hk => by rw [atR_map F n k hk]; exact (lf k hk).mono (by omega)) (fun k hk => by rw [sg_row F n k hk]; exact (l1 k hk).mono (by omega)) (fun k hk => by rw [sq_row F n k hk]; exact (l2 k hk).mono (by omega))
 rw [sp_row] at this
 exact this
set_option maxHeartbeats 32000000 in
set_option maxRecDepth 100000 in
theorem estimate_ok (b off cap n m : Nat) (ls : List (List Rat)) (w : World) (hv : ListsAt w (.slice (some ⟨b,off,none⟩) n cap) ls) (hN : n = ls.length) (hm : ∀ i,i < n→(ls[i]?.getD []).length = m) (hn1 : 2 ≤ n) (hn2 : n ≤ 40) (hm1 : 2 ≤ m) (hm2 : m ≤ 40) (lf : ∀ i j,i < n→j < m→Len (atR (ls[i]?.getD []) j) 1) (hne : (esB ls m n).num ≠ 0→(esB ls m n + esD ls m n).num ≠ 0) (hk : rowE ls = 0) :
  Calls Tryz.prog 43 #[.slice (some ⟨b,off,none⟩) n cap] w fun e w' => ∃ v,e = .returned (.tuple #[v,.nilIface])∧FoundAt (esA ls m n) (esW ls m n) (esB ls m n) (esO ls m n) w.heap.size n (esP ls m n) w' v∧But [] w w':=by
 have CK:=hide (fun W (h : But [] w W) => checkRows_any (some ⟨b,off,none⟩) n cap ls W (hv.but h) hN (by omega) (fun i hi => by rw [hm i hi]; omega))
 rw [hk] at CK
 have lr : ∀ i,i < n→Len (rmR ls m i) 82∧Len (rsR ls m i) 330:=fun i hi => by
  obtain ⟨h1,h2,-,-⟩:=len_list (atR (ls[i]?.getD [])) m 1 hm1 hm2 (fun k hk => lf i k hi hk)
  exact ⟨h1.mono (by omega),h2.mono (by omega)⟩
 have ROW : Hid (∀ i,i < n→∀ W,But [] w W→∃ a c,W.cell? ⟨b,off + i,none⟩ = some (.slice a m c)∧(Calls Tryz.prog 111 #[.slice a m c] W fun e w' => ∃ v,e = .returned v∧FracAt w' v (rmR ls m i)∧But [] W w')∧∀ W',But [] W W'→Calls Tryz.prog 112 #[.slice a m c] W' fun e w' => ∃ v,e = .returned v∧FracAt w' v (rsR ls m i)∧But [] W' w'):=fun i hi W hb => by
  obtain ⟨b',off',a,c,e',hc,hfs⟩:=(hv.but hb).at i hi
  simp only [Option.some.injEq,Addr.mk.injEq,and_true] at e'
  obtain ⟨rfl,rfl⟩:=e'
  rw [hm i hi] at hc hfs
  obtain ⟨-,-,l1,l2⟩:=len_list (atR (ls[i]?.getD [])) m 1 hm1 hm2 (fun k hk => lf i k hi hk)
  rcases hfs.open with ⟨er,a',c',e2⟩ | ⟨-,rb,roff,rc,e2,-,-⟩
  ·have h0:=hm i hi
   rw [er] at h0
   simp at h0
   omega
  ·simp only [Value.slice.injEq] at e2
   obtain ⟨rfl,-,rfl⟩:=e2
   exact ⟨_,_,hc,creditMean_any rb roff c m _ W hfs (by omega) (by omega) (fun k hk => (lf i k hi hk).mono (by omega)) (fun k hk => (l1 k hk).mono (by omega)),fun W' hb' => spread_any rb roff c m _ W' (hfs.but hb') hm1 (by omega) (fun k hk => (lf i k hi hk).mono (by omega)) (fun k hk => (l1 k hk).mono (by omega)) (fun k hk => (l2 k hk).mono (by omega))⟩
 obtain ⟨lA,lS,-,-⟩:=len_list (rmR ls m) n 82 hn1 hn2 (fun k hk => (lr k hk).1)
 obtain ⟨lW,-,-,-⟩:=len_list (rsR ls m) n 330 hn1 hn2 (fun k hk => (lr k hk).2)
 have lA' : Len (esA ls m n) 3322:=lA
 have lW' : Len (esW ls m n) 13242:=lW
 have lD : Len (esD ls m n) 13243:=len_div lW' (len_int (m : Int) (by omega)) (by rw [(int_parts (m : Int)).1]; omega) 13243 (by omega)
 have lSD : Len (spR (rmR ls m) n - esD ls m n) 26535:=len_sub lS lD 26535 (by omega)
 have lB : Len (esB ls m n) 26535:=len_max0 lSD (by omega)
 have lO : Len (esO ls m n) 66500:=by
  show Len (ownR (esB ls m n) (esD ls m n)) 66500
  unfold ownR
  by_cases h : (esB ls m n).num = 0
  ·rw [if_pos h]; exact len_zero _ (by omega)
  ·rw [if_neg h]
   exact len_div lB (len_add lB lD 39779 (by omega)) (hne h) _ (by omega)
 have ME1:=hide (fun W g (h : RowOf W g n (rmR ls m)) => meanRow_any g n 82 (rmR ls m) W h hn1 hn2 (by omega) (fun k hk => (lr k hk).1))
 have ME2:=hide (fun W g (h : RowOf W g n (rsR ls m)) => meanRow_any g n 330 (rsR ls m) W h hn1 hn2 (by omega) (fun k hk => (lr k hk).2))
 have SPR:=hide (fun W g (h : RowOf W g n (rmR ls m)) => spreadRow_any g n 82 (rmR ls m) W h hn1 hn2 (by omega) (fun k hk => (lr k hk).1))
 have PRE : Hid (∀ W g va vo,RowOf W g n (rmR ls m)→FracAt W va (esA ls m n)→FracAt W vo (esO ls m n)→Calls Tryz.prog 115 #[.slice (some ⟨g,0,none⟩) n n,va,vo] W fun e w' => ∃ g,e = .returned (.slice (some ⟨g,0,none⟩) n n)∧RowOf w' g n (esP ls m n)∧W.heap.size ≤ g∧g < w'.heap.size∧But [] W w'):=fun W g va vo h1 h2 h3 => by
  refine (premiums_any g 0 n n _ va vo _ _ W (row_fracs h1) h2 h3 (by omega) (by omega) (fun k hk => by rw [atR_map _ n k hk]; exact (lr k hk).1.mono (by omega)) (lA'.mono (by omega)) (lO.mono (by omega))).mono ?_
  rintro e w' ⟨g',e1,h4,h5,h6,h7⟩
  exact ⟨g',e1,h4.congr (fun j hj => by rw [atR_map _ n j hj]; rfl),h5,h6,h7⟩
 have OWN : Hid (∀ W va vb,FracAt W va (esB ls m n)→FracAt W vb (esD ls m n)→Calls Tryz.prog 107 #[va,vb] W fun e w' => ∃ v,e = .returned v∧FracAt w' v (esO ls m n)∧But [] W w'):=fun W va vb h1 h2 => ownPart_any va vb _ _ W h1 h2 (lB.mono (by omega)) (lD.mono (by omega)) hne
 have QUO : Hid (∀ W v,FracAt W v (esW ls m n)→Calls Tryz.prog 113 #[v,.int .i64 (m : Int)] W fun e w' => ∃ v,e = .returned v∧FracAt w' v (esD ls m n)∧But [] W w'):=fun W v h => creditQuot_any v _ (m : Int) W h (lW'.mono (by omega)) (by omega) (by omega)
 have SUB : Hid (∀ W va vb,FracAt W va (spR (rmR ls m) n)→FracAt W vb (esD ls m n)→Calls Tryz.prog 74 #[va,vb] W fun e w' => ∃ v,e = .returned v∧FracAt w' v (spR (rmR ls m) n - esD ls m n)∧But [] W w'):=fun W va vb h1 h2 => fracSub_any va vb _ _ W h1 h2 (lS.mono (by omega)) (lD.mono (by omega))
 have hcell : Hid (∃ a c,w.cell? ⟨b,off,none⟩ = some (.slice a m c)):=by
  obtain ⟨a,c,h,-⟩:=unhide ROW 0 (by omega) w (But.refl _ _)
  rw [Nat.add_zero] at h
  exact ⟨a,c,h⟩
 have hEA : esA ls m n = sgR (rmR ls m) n / (((n : Nat) : Int) : Rat):=rfl
 have hEW : esW ls m n = sgR (rsR ls m) n / (((n : Nat) : Int) : Rat):=rfl
 have hED : esD ls m n = esW ls m n / (((m : Nat) : Int) : Rat):=rfl
 have hEB : esB ls m n = max0 (spR (rmR ls m) n - esD ls m n):=rfl
 rw [← hEA] at ME1
 rw [← hEW] at ME2
 have HED:=hide hED
 have HEB:=hide hEB
 generalize esP ls m n = PF at *
 generalize esA ls m n = EA at *
 generalize esW ls m n = EW at *
 generalize esD ls m n = ED at *
 generalize esB ls m n = EB at *
 generalize esO ls m n = EO at *
 generalize spR (rmR ls m) n = SR at *
 generalize rmR ls m = FM at *
 generalize rsR ls m = FS at *
 have x4 : SBox (w.alloc (.cells #[.bool false,.int .u64 0,.int .u64 0,.pointer none,.bool false,.int .u64 0,.int .u64 0,.pointer none,.bool false,.int .u64 0,.int .u64 0,.pointer none,.bool false,.int .u64 0,.int .u64 0,.pointer none,.slice none 0 0] 86)) w.heap.size [.bool false,.int .u64 0,.int .u64 0,.pointer none,.bool false,.int .u64 0,.int .u64 0,.pointer none,.bool false,.int .u64 0,.int .u64 0,.pointer none,.bool false,.int .u64 0,.int .u64 0,.pointer none,.slice none 0 0]:=SBox.new w _ _
 have bA : But [] w (w.alloc (.cells #[.bool false,.int .u64 0,.int .u64 0,.pointer none,.bool false,.int .u64 0,.int .u64 0,.pointer none,.bool false,.int .u64 0,.int .u64 0,.pointer none,.bool false,.int .u64 0,.int .u64 0,.pointer none,.slice none 0 0] 86)):=(But.refl _ _).alloc _
 have X4:=hide x4
 have BA:=hide bA
 have Q2 : Hid (w.heap.size ≤ w.heap.size):=Nat.le_refl _
 clear x4 bA hv hN hm lf hne hk lr lA lS lW lA' lW' lD lSD lB lO hEA hEW hED hEB
 go_enter Tryz.func43,Tryz.ntmps43
 go_wp2_with fail
 refine (unhide CK _ (unhide BA)).mono ?_
 rintro e w1 ⟨rfl,hb1⟩
 have B1:=hide ((unhide BA).trans' hb1)
 have X41:=hide ((unhide X4).but hb1 (by simp) (by simp))
 clear hb1 X4 BA CK
 rw [show errV 0 = .nilIface from rfl]
 go_wp2
 refine twoRows_region 4 _ _ w1 (some ⟨b,off,none⟩) n cap (by omega) (by simp) (by simp [Act.eval]) ?_
 intro w2 g1 g2 hb2 hr1 hr2 hg1 hg2 hl1 hl2 hgn
 simp only [putted,List.foldl_cons,List.foldl_nil,Act.put,List.setIfInBounds_toArray,List.set_cons_zero,List.set_cons_succ]
 have B2:=hide ((unhide B1).trans' hb2)
 have X42:=hide ((unhide X41).but hb2 (by simp) (by simp))
 have R1:=hide hr1
 have R2:=hide hr2
 have g4l : w.heap.size < w1.heap.size:=(unhide X41).lt (by simp)
 clear hb2 hr1 hr2 B1 X41
 generalize hg4 : w.heap.size = g4 at *
 have o1 : g4 < g1:=by omega
 have o2 : g4 < g2:=by omega
 go_wp2
 go_loopw [28] (fun iv wr => ∃ k : Nat,k ≤ n∧iv = .int .i64 (k : Int)∧Hid ((∃ F,RowOf wr g1 n F∧∀ j,j < k→F j = FM j)∧(∃ F,RowOf wr g2 n F∧∀ j,j < k→F j = FS j)∧SBox wr g4 [.bool false,.int .u64 0,.int .u64 0,.pointer none,.bool false,.int .u64 0,.int .u64 0,.pointer none,.bool false,.int .u64 0,.int .u64 0,.pointer none,.bool false,.int .u64 0,.int .u64 0,.pointer none,.slice none 0 0]∧(g1 < wr.heap.size∧g2 < wr.heap.size)∧But [] w wr)) (fun iv _ => n - (intOf iv).toNat)
 case atStart => exact ⟨0,Nat.zero_le _,rfl,⟨_,unhide R1,fun j hj => absurd hj (by omega)⟩,⟨_,unhide R2,fun j hj => absurd hj (by omega)⟩,unhide X42,⟨hl1,hl2⟩,unhide B2⟩
 case round =>
  obtain ⟨k,hk,rfl,HI⟩:=hrel
  rename World => wr
  clear R1 R2 X42 B2 hl1 hl2
  by_cases hlt : k < n
  ·obtain ⟨⟨F1,hF1,hT1⟩,⟨F2,hF2,hT2⟩,hX,⟨hs1,hs2⟩,hbw⟩:=unhide HI
   obtain ⟨ak,ck,hck,hme,hsp⟩:=unhide ROW k hlt wr hbw
   have ME:=hide hme
   have SP:=hide hsp
   clear hme hsp hF1 hT1 hF2 hT2 hX hbw
   go_wp2_with fail
   refine (unhide ME).mono ?_
   rintro e w3 ⟨v3,rfl,hf3,hb3⟩
   obtain ⟨x3,y3,p3,rfl,-⟩:=id hf3.agg
   generalize decide ((FM k).num < 0) = s3 at *
   have B3:=hide hb3
   have F3:=hide hf3
   have SP3:=hide (unhide SP w3 hb3)
   clear hb3 hf3 ME SP hck
   go_wp2_with fail
   refine (unhide SP3).mono ?_
   rintro e w5 ⟨v5,rfl,hf5,hb5⟩
   obtain ⟨x5,y5,p5,rfl,-⟩:=id hf5.agg
   generalize decide ((FS k).num < 0) = s5 at *
   have B5:=hide ((unhide B3).trans' hb5)
   have F35:=hide ((unhide F3).but hb5)
   have F55:=hide hf5
   clear hb5 hf5 SP3 F3 B3
   obtain ⟨⟨F1,hF1,hT1⟩,⟨F2,hF2,hT2⟩,hX,⟨hs1,hs2⟩,hbw⟩:=unhide HI
   have r1:=hF1.but (unhide B5) hs1
   have r2:=hF2.but (unhide B5) hs2
   have z1:=r1.loose
   have z2:=r2.loose
   obtain ⟨ta,aa,ba,qa,⟨k0,k1,k2,k3⟩,-⟩:=r1.told k hlt
   obtain ⟨tb,ab,bb,qb,⟨l0,l1,l2,l3⟩,-⟩:=r2.told k hlt
   have hbo1:=r1.bool (show 0 < n by omega)
   have hbo2:=r2.bool (show 0 < n by omega)
   have hS1:=but_setCells w5 g1 [.bool s3,.int .u64 x3,.int .u64 y3,.pointer p3] (k * 4)
   have r1':=r1.set hlt s3 x3 y3 p3 _ (unhide F35)
   have r2' : RowOf (w5.setCells g1 (k * 4) [.bool s3,.int .u64 x3,.int .u64 y3,.pointer p3]) g2 n F2:=⟨fun j hj => (r2.told j hj).beside hS1 (by simp; omega) (fun g hg => by simp at hg; subst hg; exact hbo1),fun o => by rw [World.frozen?_setCells]; exact z2 o⟩
   have f5':=(unhide F55).beside hS1 (fun g hg => by simp at hg; subst hg; exact hbo1)
   have hX':=(hX.but (unhide B5) (by simp) (by simp)).but hS1 (by simp; omega) (by simp)
   have l0':=hS1.cell_some l0 (by simp; omega)
   have l1':=hS1.cell_some l1 (by simp; omega)
   have l2':=hS1.cell_some l2 (by simp; omega)
   have l3':=hS1.cell_some l3 (by simp; omega)
   have hbo2':=r2'.bool (show 0 < n by omega)
   have hS2:=but_setCells (w5.setCells g1 (k * 4) [.bool s3,.int .u64 x3,.int .u64 y3,.pointer p3]) g2 [.bool s5,.int .u64 x5,.int .u64 y5,.pointer p5] (k * 4)
   have r2'':=r2'.set hlt s5 x5 y5 p5 _ f5'
   have r1'' : RowOf ((w5.setCells g1 (k * 4) [.bool s3,.int .u64 x3,.int .u64 y3,.pointer p3]).setCells g2 (k * 4) [.bool s5,.int .u64 x5,.int .u64 y5,.pointer p5]) g1 n (setF F1 k (FM k)):=⟨fun j hj => (r1'.told j hj).beside hS2 (by simp; omega) (fun g hg => by simp at hg; subst hg; exact hbo2'),fun o => by rw [World.frozen?_setCells]; exact r1'.loose o⟩
   have hX'':=hX'.but hS2 (by simp; omega) (by simp)
   have JJ : Hid ((∃ F,RowOf ((w5.setCells g1 (k * 4) [.bool s3,.int .u64 x3,.int .u64 y3,.pointer p3]).setCells g2 (k * 4) [.bool s5,.int .u64 x5,.int .u64 y5,.pointer p5]) g1 n F∧∀ j,j < k + 1→F j = FM j)∧(∃ F,RowOf ((w5.setCells g1 (k * 4) [.bool s3,.int .u64 x3,.int .u64 y3,.pointer p3]).setCells g2 (k * 4) [.bool s5,.int .u64 x5,.int .u64 y5,.pointer p5]) g2 n F∧∀ j,j < k + 1→F j = FS j)∧SBox ((w5.setCells g1 (k * 4) [.bool s3,.int .u64 x3,.int .u64 y3,.pointer p3]).setCells g2 (k * 4) [.bool s5,.int .u64 x5,.int .u64 y5,.pointer p5]) g4 [.bool false,.int .u64 0,.int .u64 0,.pointer none,.bool false,.int .u64 0,.int .u64 0,.pointer none,.bool false,.int .u64 0,.int .u64 0,.pointer none,.bool false,.int .u64 0,.int .u64 0,.pointer none,.slice none 0 0]∧(g1 < ((w5.setCells g1 (k * 4) [.bool s3,.int .u64 x3,.int .u64 y3,.pointer p3]).setCells g2 (k * 4) [.bool s5,.int .u64 x5,.int .u64 y5,.pointer p5]).heap.size∧g2 < ((w5.setCells g1 (k * 4) [.bool s3,.int .u64 x3,.int .u64 y3,.pointer p3]).setCells g2 (k * 4) [.bool s5,.int .u64 x5,.int .u64 y5,.pointer p5]).heap.size)∧But [] w ((w5.setCells g1 (k * 4) [.bool s3,.int .u64 x3,.int .u64 y3,.pointer p3]).setCells g2 (k * 4) [.bool s5,.int .u64 x5,.int .u64 y5,.pointer p5])) :=
    ⟨⟨_,r1'',fun j hj => by
     unfold setF
     by_cases e : j = k
     ·rw [if_pos e,e]
     ·rw [if_neg e]; exact hT1 j (by omega)⟩,⟨_,r2'',fun j hj => by
     unfold setF
     by_cases e : j = k
     ·rw [if_pos e,e]
     ·rw [if_neg e]; exact hT2 j (by omega)⟩,hX'',by
     have a1:=(unhide B5).size
     have a2:=hS1.size
     have a3:=hS2.size
     omega,((hbw.trans' (unhide B5)).trans hS1 (fun x hx => by simp at hx; subst hx; exact .inr (by omega))).trans hS2 (fun x hx => by simp at hx; subst hx; exact .inr (by omega))⟩
   clear hF1 hT1 hF2 hT2 hX hbw r1 r2 hbo1 hbo2 hS1 r1' r2' f5' hX' hbo2' hS2 r1'' r2'' hX'' HI F35 F55 B5 l0' l1' l2' l3'
   go_wp2
   exact ⟨⟨k + 1,by omega,by go_num,unhide JJ⟩,by simp [intOf]; omega⟩
  ·obtain rfl : k = n:=by omega
   obtain ⟨⟨F1,hF1,hT1⟩,⟨F2,hF2,hT2⟩,hX,⟨hs1,hs2⟩,hbw⟩:=unhide HI
   have R1 : Hid (RowOf wr g1 k FM):=hF1.congr (fun j hj => hT1 j hj)
   have R2 : Hid (RowOf wr g2 k FS):=hF2.congr (fun j hj => hT2 j hj)
   have X3:=hide hX
   have B3:=hide hbw
   have MA:=hide (unhide ME1 wr g1 (unhide R1))
   clear hF1 hT1 hF2 hT2 hX hbw HI ROW ME1
   go_wp2_with fail
   refine (unhide MA).mono ?_
   rintro e w4 ⟨v4,rfl,hf4,hb4⟩
   obtain ⟨x4,y4,p4,rfl,-⟩:=id hf4.agg
   generalize decide (EA.num < 0) = s4 at *
   have MB:=hide (unhide ME2 w4 g2 ((unhide R2).but hb4 hs2))
   have R14:=hide ((unhide R1).but hb4 hs1)
   have X34:=hide ((unhide X3).but hb4 (by simp) (by simp))
   have B4:=hide ((unhide B3).trans' hb4)
   have F4:=hide hf4
   have hs14:=Nat.lt_of_lt_of_le hs1 hb4.size
   clear hb4 hf4 MA ME2 R1 R2 X3 B3 hs1 hs2
   go_wp2_with fail
   refine (unhide MB).mono ?_
   rintro e w5 ⟨v5,rfl,hf5,hb5⟩
   obtain ⟨x5,y5,p5,rfl,-⟩:=id hf5.agg
   generalize decide (EW.num < 0) = s5 at *
   obtain ⟨V1,hV1⟩ : ∃ V1,V1 = w5.alloc (.cells #[.bool s4,.int .u64 x4,.int .u64 y4,.pointer p4] 29):=⟨_,rfl⟩
   obtain ⟨V2,hV2⟩ : ∃ V2,V2 = V1.alloc (.cells #[.bool s5,.int .u64 x5,.int .u64 y5,.pointer p5] 29):=⟨_,rfl⟩
   have sV1 : V1.heap.size = w5.heap.size + 1:=by rw [hV1]; simp
   have bV1 : But [] w5 V1:=by rw [hV1]; exact (But.refl _ _).alloc _
   have bV2 : But [] V1 V2:=by rw [hV2]; exact (But.refl _ _).alloc _
   have bs:=hb5.trans' (bV1.trans' bV2)
   have Y9 : Hid (BoxAt V2 w5.heap.size EA):=by
    have h:=BoxAt.new w5 s4 x4 y4 p4 EA 29 ((unhide F4).but hb5)
    rw [← hV1] at h
    exact h.but bV2
   have Y10 : Hid (BoxAt V2 (w5.heap.size + 1) EW):=by
    show BoxAt V2 (w5.heap.size + 1) EW
    rw [hV2,← sV1]
    exact BoxAt.new V1 s5 x5 y5 p5 EW 29 (hf5.but bV1)
   have R15:=hide ((unhide R14).but bs hs14)
   have X35:=hide ((unhide X34).but bs (by simp) (by simp))
   have B5:=hide ((unhide B4).trans' bs)
   have hs15:=Nat.lt_of_lt_of_le hs14 bs.size
   clear hb5 hf5 MB R14 X34 B4 F4 hs14 bs bV1 bV2
   go_wp2
   rw [← hV1,← hV2]
   clear hV1 hV2 sV1
   generalize w5.heap.size + 1 = g10 at *
   generalize w5.heap.size = g9 at *
   obtain ⟨⟨t10,a10,b10,q10,k10,f10⟩,-⟩:=unhide Y10
   obtain ⟨a0,c0,hc0⟩:=unhide hcell
   refine est_region11 11 _ _ V2 V2.heap.size b off k cap a0 m c0 t10 a10 b10 q10 EW (by simp) g10 (Nat.le_refl _) (by simp [Act.eval]) (by simp [Act.eval]) (by omega) (by omega) k10 ((unhide B5).cell_some hc0 (by simp)) (fun W hb => by rw [← unhide HED]; exact unhide QUO W _ (f10.but hb)) ?_
   intro w6 g11 s6 x6 y6 p6 hb6 hg11 hp6 hz6 hf6
   simp only [putted,List.foldl_cons,List.foldl_nil,Act.put,List.setIfInBounds_toArray,List.set_cons_zero,List.set_cons_succ]
   rw [← unhide HED] at hf6
   have hP6:=put4_but w6 g11 s6 x6 y6 p6
   have y11 : BoxAt (put4 w6 g11 s6 x6 y6 p6) g11 ED:=BoxAt.put (f:=0) ⟨⟨false,0,0,none,hp6,zero_at _⟩,hz6⟩ hf6
   have hbo : ∀ g ∈ [g11],∃ s,w6.cell? ⟨g,0,none⟩ = some (.bool s):=fun g hg => by simp at hg; subst hg; exact ⟨_,hp6.1⟩
   have ltV : g4 < V2.heap.size∧g9 < V2.heap.size∧g10 < V2.heap.size:=⟨(unhide X35).lt (by simp),(unhide Y9).lt,(unhide Y10).lt⟩
   have hwV:=(unhide B5).size
   have B6:=hide (((unhide B5).trans' hb6).trans hP6 (fun x hx => by simp at hx; subst hx; exact .inr (by omega)))
   have r16:=(unhide R15).but hb6 hs15
   have R16 : Hid (RowOf (put4 w6 g11 s6 x6 y6 p6) g1 k FM):=⟨fun j hj => (r16.told j hj).beside hP6 (by simp; omega) hbo,fun o => (put4_fz _ _ _ _ _ _ _ _).trans (r16.loose o)⟩
   have X36:=hide (((unhide X35).but hb6 (by simp) (by simp)).but hP6 (by simp; omega) (by simp))
   have Y96:=hide (((unhide Y9).but hb6).beside hP6 (by simp; omega) hbo)
   have Y106:=hide (((unhide Y10).but hb6).beside hP6 (by simp; omega) hbo)
   have Y11:=hide y11
   have hs16 : g1 < (put4 w6 g11 s6 x6 y6 p6).heap.size:=Nat.lt_of_lt_of_le (Nat.lt_of_lt_of_le hs15 hb6.size) hP6.size
   generalize put4 w6 g11 s6 x6 y6 p6 = V6 at *
   clear hP6 y11 hbo hb6 hg11 hp6 hz6 hf6 R15 X35 Y9 Y10 B5 k10 f10 ltV hwV r16 hs15 QUO
   go_wp2
   obtain ⟨⟨t11,a11,b11,q11,k11,f11⟩,-⟩:=unhide Y11
   refine est_region12 12 _ _ V6 V6.heap.size (.slice (some ⟨g1,0,none⟩) k k) t11 a11 b11 q11 ED SR (by simp) g11 (Nat.le_refl _) (by simp [Act.eval]) (by simp [Act.eval]) k11 (fun W hb => unhide SPR W g1 ((unhide R16).but hb hs16)) (fun W hb v hv => unhide SUB W _ _ hv (f11.but hb)) (fun W hb v hv => nought_any v _ W hv) ?_
   intro w7 g12 v1' v3' s7 x7 y7 p7 hb7 hg12 hp7 hz7 hf7
   simp only [putted,List.foldl_cons,List.foldl_nil,Act.put,List.setIfInBounds_toArray,List.set_cons_zero,List.set_cons_succ]
   rw [← unhide HEB] at hf7
   have hP7:=put4_but w7 g12 s7 x7 y7 p7
   have y12 : BoxAt (put4 w7 g12 s7 x7 y7 p7) g12 EB:=BoxAt.put (f:=0) ⟨⟨false,0,0,none,hp7,zero_at _⟩,hz7⟩ hf7
   have hbo : ∀ g ∈ [g12],∃ s,w7.cell? ⟨g,0,none⟩ = some (.bool s):=fun g hg => by simp at hg; subst hg; exact ⟨_,hp7.1⟩
   have ltV : g4 < V6.heap.size∧g9 < V6.heap.size∧g10 < V6.heap.size∧g11 < V6.heap.size:=⟨(unhide X36).lt (by simp),(unhide Y96).lt,(unhide Y106).lt,(unhide Y11).lt⟩
   have hwV:=(unhide B6).size
   have B7:=hide (((unhide B6).trans' hb7).trans hP7 (fun x hx => by simp at hx; subst hx; exact .inr (by omega)))
   have r17:=(unhide R16).but hb7 hs16
   have R17 : Hid (RowOf (put4 w7 g12 s7 x7 y7 p7) g1 k FM):=⟨fun j hj => (r17.told j hj).beside hP7 (by simp; omega) hbo,fun o => (put4_fz _ _ _ _ _ _ _ _).trans (r17.loose o)⟩
   have X37:=hide (((unhide X36).but hb7 (by simp) (by simp)).but hP7 (by simp; omega) (by simp))
   have Y97:=hide (((unhide Y96).but hb7).beside hP7 (by simp; omega) hbo)
   have Y107:=hide (((unhide Y106).but hb7).beside hP7 (by simp; omega) hbo)
   have Y117:=hide (((unhide Y11).but hb7).beside hP7 (by simp; omega) hbo)
   have Y12:=hide y12
   have hs17 : g1 < (put4 w7 g12 s7 x7 y7 p7).heap.size:=Nat.lt_of_lt_of_le (Nat.lt_of_lt_of_le hs16 hb7.size) hP7.size
   generalize put4 w7 g12 s7 x7 y7 p7 = V7 at *
   clear hP7 y12 hbo hb7 hg12 hp7 hz7 hf7 R16 X36 Y96 Y106 Y11 B6 k11 f11 ltV hwV r17 hs16 SPR SUB
   obtain ⟨⟨t11,a11,b11,q11,⟨j0,j1,j2,j3⟩,f11⟩,-⟩:=unhide Y117
   obtain ⟨⟨t12,a12,b12,q12,⟨i0,i1,i2,i3⟩,f12⟩,-⟩:=unhide Y12
   have OW:=hide (unhide OWN V7 _ _ f12 f11)
   clear f11 f12 OWN
   go_wp2_with fail
   refine (unhide OW).mono ?_
   rintro e w8 ⟨v8,rfl,hf8,hb8⟩
   obtain ⟨x8,y8,p8,rfl,-⟩:=id hf8.agg
   generalize decide (EO.num < 0) = s8 at *
   have bs:=hb8.trans' ((But.refl _ _).alloc (.cells #[.bool s8,.int .u64 x8,.int .u64 y8,.pointer p8] 29))
   have B8:=hide ((unhide B7).trans' bs)
   have R18:=hide ((unhide R17).but bs hs17)
   have X38:=hide ((unhide X37).but bs (by simp) (by simp))
   have Y98:=hide ((unhide Y97).but bs)
   have Y108:=hide ((unhide Y107).but bs)
   have Y128:=hide ((unhide Y12).but bs)
   have Y13:=hide (BoxAt.new w8 s8 x8 y8 p8 _ 29 hf8)
   have hs18:=Nat.lt_of_lt_of_le hs17 bs.size
   clear hb8 hf8 bs R17 X37 Y97 Y107 Y117 Y12 B7 OW j0 j1 j2 j3 i0 i1 i2 i3 hs17
   go_wp2
   generalize w8.heap.size = g13 at *
   generalize w8.alloc (.cells #[.bool s8,.int .u64 x8,.int .u64 y8,.pointer p8] 29) = V8 at *
   obtain ⟨⟨t9,a9,b9,q9,k9,f9⟩,-⟩:=unhide Y98
   obtain ⟨⟨t10,a10,b10,q10,k10,f10⟩,-⟩:=unhide Y108
   obtain ⟨⟨t12,a12,b12,q12,k12,f12⟩,-⟩:=unhide Y128
   obtain ⟨⟨t13,a13,b13,q13,k13,f13⟩,-⟩:=unhide Y13
   refine est_region14 14 _ _ V8 V8.heap.size (.slice (some ⟨g1,0,none⟩) k k) k PF t9 a9 b9 q9 t10 a10 b10 q10 t12 a12 b12 q12 t13 a13 b13 q13 EA EW EB EO g4 g9 g10 g12 g13 (by simp) (by simp [Act.eval]) (unhide X38) rfl (by simp [Act.eval]) (by simp [Act.eval]) (by simp [Act.eval]) (by simp [Act.eval]) (by simp [Act.eval]) k9 k10 k12 k13 f9 f10 f12 f13 (fun W hb => (unhide PRE W g1 _ _ ((unhide R18).but hb hs18) (f9.but hb) (f13.but hb)).mono (fun e w' h => by
    obtain ⟨g,e1,h1,h2,h3,h4⟩:=h
    exact ⟨_,e1,⟨g,rfl,h1,Nat.le_trans hb.size h2,h3⟩,h4⟩)) ?_
   intro w9 z0 z1 z2 z3 z7 e1 e2 e3 e4 e5 e6 e7 e8 e9 e10 e11 e12 e13 e14 e15 e16 gr hb9 h1 h2 h3 h4 hr hgr hgl
   simp only [putted,List.foldl_cons,List.foldl_nil,Act.put,List.setIfInBounds_toArray,List.set_cons_zero,List.set_cons_succ]
   have X39:=(unhide X38).but hb9 (by simp) (by simp)
   have g48:=(unhide X38).lt (by simp)
   have hwV:=(unhide B8).size
   have hS:=but_setCells w9 g4 [.bool e1,.int .u64 e2,.int .u64 e3,.pointer e4,.bool e5,.int .u64 e6,.int .u64 e7,.pointer e8,.bool e9,.int .u64 e10,.int .u64 e11,.pointer e12,.bool e13,.int .u64 e14,.int .u64 e15,.pointer e16,.slice (some ⟨gr,0,none⟩) k k] 0
   have P:=X39.put (us:=[.bool e1,.int .u64 e2,.int .u64 e3,.pointer e4,.bool e5,.int .u64 e6,.int .u64 e7,.pointer e8,.bool e9,.int .u64 e10,.int .u64 e11,.pointer e12,.bool e13,.int .u64 e14,.int .u64 e15,.pointer e16,.slice (some ⟨gr,0,none⟩) k k]) rfl
   have m0:=P.cells 0 _ rfl
   have m1:=P.cells 1 _ rfl
   have m2:=P.cells 2 _ rfl
   have m3:=P.cells 3 _ rfl
   have m4:=P.cells 4 _ rfl
   have m5:=P.cells 5 _ rfl
   have m6:=P.cells 6 _ rfl
   have m7:=P.cells 7 _ rfl
   have m8:=P.cells 8 _ rfl
   have m9:=P.cells 9 _ rfl
   have m10:=P.cells 10 _ rfl
   have m11:=P.cells 11 _ rfl
   have m12:=P.cells 12 _ rfl
   have m13:=P.cells 13 _ rfl
   have m14:=P.cells 14 _ rfl
   have m15:=P.cells 15 _ rfl
   have m16:=P.cells 16 _ rfl
   have c0':=X39.cells 0 _ rfl
   have hbo : ∀ g ∈ [g4],∃ s,w9.cell? ⟨g,0,none⟩ = some (.bool s):=fun g hg => by simp at hg; subst hg; exact ⟨_,c0'⟩
   have hF : But [] w (w9.setCells g4 0 [.bool e1,.int .u64 e2,.int .u64 e3,.pointer e4,.bool e5,.int .u64 e6,.int .u64 e7,.pointer e8,.bool e9,.int .u64 e10,.int .u64 e11,.pointer e12,.bool e13,.int .u64 e14,.int .u64 e15,.pointer e16,.slice (some ⟨gr,0,none⟩) k k]):=((unhide B8).trans' hb9).trans hS (fun x hx => by simp at hx; subst hx; exact .inr (by omega))
   have h1':=h1.over c0' hS
   have h2':=h2.over c0' hS
   have h3':=h3.over c0' hS
   have h4':=h4.over c0' hS
   have hr' : RowOf (w9.setCells g4 0 [.bool e1,.int .u64 e2,.int .u64 e3,.pointer e4,.bool e5,.int .u64 e6,.int .u64 e7,.pointer e8,.bool e9,.int .u64 e10,.int .u64 e11,.pointer e12,.bool e13,.int .u64 e14,.int .u64 e15,.pointer e16,.slice (some ⟨gr,0,none⟩) k k]) gr k PF:=⟨fun j hj => (hr.told j hj).beside hS (by simp; omega) hbo,fun o => by rw [World.frozen?_setCells]; exact hr.loose o⟩
   have hgl':=Nat.lt_of_lt_of_le hgl hS.size
   generalize w9.setCells g4 0 [.bool e1,.int .u64 e2,.int .u64 e3,.pointer e4,.bool e5,.int .u64 e6,.int .u64 e7,.pointer e8,.bool e9,.int .u64 e10,.int .u64 e11,.pointer e12,.bool e13,.int .u64 e14,.int .u64 e15,.pointer e16,.slice (some ⟨gr,0,none⟩) k k] = F at *
   clear P X39 hS c0' hbo h1 h2 h3 h4 hr hb9 k9 k10 k12 k13 f9 f10 f12 f13
   go_wp2
   exact bodyPost_ret (v:=.tuple #[.agg #[.bool e1,.int .u64 e2,.int .u64 e3,.pointer e4,.bool e5,.int .u64 e6,.int .u64 e7,.pointer e8,.bool e9,.int .u64 e10,.int .u64 e11,.pointer e12,.bool e13,.int .u64 e14,.int .u64 e15,.pointer e16,.slice (some ⟨gr,0,none⟩) k k],.nilIface]) (by simp [results,Tryz.results43,go_sem,m0,m1,m2,m3,m4,m5,m6,m7,m8,m9,m10,m11,m12,m13,m14,m15,m16]) rfl ⟨_,rfl,⟨e1,e2,e3,e4,e5,e6,e7,e8,e9,e10,e11,e12,e13,e14,e15,e16,gr,rfl,h1',h2',h3',h4',hr',by omega,hgl'⟩,hF⟩
end Go.Proofs.YtloojmaamaambaaGreatDoor
