/- How likely each amount of the one and each of the other are together, by quantiles, as the Go text of package order finds it. -/
import Derived.Test.YtikgmhpbdcdogaaGreatDoorYKA
import Derived.Test.YtikgmhpbdcdogaaGreatDoorYOC
import Derived.Test.YtikgmhpbdcdogaaGreatDoorYOD
import Derived.Test.YtikgmhpbdcdogaaGreatDoorYOH
namespace Go.Proofs.YtikgmhpbdcdogaaGreatDoor
open Go.RowKit

theorem len_max0 {x : Rat} {n : Nat} (h : Len x n) (hn : 1 ≤ n) : Len (max0 x) n:=by
 unfold max0
 split
 ·exact h
 ·exact len_zero _ hn
theorem len_sgR (c : Nat) (f : Nat→Rat) (h : ∀ k,Len (f k) c) : ∀ k,Len (sgR f k) (k * (c + 1) + 1)
 | 0 => len_zero _ (by omega)
 | k + 1 => by
  have ih:=len_sgR c f h k
  show Len (sgR f k + f k) _
  exact len_add ih (h k) _ (by rw [Nat.succ_mul]; omega)
/-- what is left stays short, and so does the chance that is given away -/
theorem bes_len (a b : Nat→Rat) (na nb : Nat) (la : ∀ k,Len (a k) 1) (lb : ∀ k,Len (b k) 1) (ha : ∀ i,0 ≤ a i) (hb : ∀ k,0 ≤ b k) (hna : na ≤ 100) (hnb : nb ≤ 100) (i : Nat) (hi : i < na) : (∀ k,k < nb→Len (besL a b i k) 10000)∧∀ k,k ≤ nb→Len (tkC (besL a b i) (a i) k) 10000:=by
 obtain ⟨h1,h2⟩:=bes_pref a b na nb (fun j _ => ha j) (fun j _ => hb j) i (by omega)
 have lp : ∀ k,k ≤ nb→Len (sgR (besL a b i) k) 1000:=fun k hk => by
  rw [h2 k hk]
  have l1:=(len_sgR 1 b lb k).mono (show k * (1 + 1) + 1 ≤ 300 by omega)
  have l2:=(len_sgR 1 a la i).mono (show i * (1 + 1) + 1 ≤ 300 by omega)
  exact (len_max0 (len_sub l1 l2 601 (by omega)) (by omega)).mono (by omega)
 refine ⟨fun k hk => ?_,fun k hk => ?_⟩
 ·have e : besL a b i k = sgR (besL a b i) (k + 1) - sgR (besL a b i) k:=by
   have : sgR (besL a b i) (k + 1) = sgR (besL a b i) k + besL a b i k:=rfl
   grind
  rw [e]
  exact len_sub (lp (k + 1) (by omega)) (lp k (by omega)) 10000 (by omega)
 ·rw [(tk_pref (besL a b i) (a i) nb h1 (ha i) k hk).1]
  exact (len_max0 (len_sub ((la i).mono (show 1 ≤ 1000 by omega)) (lp k hk) 2001 (by omega)) (by omega)).mono (by omega)
/-- the matrix behind i rows -/
def matF (a b : Nat→Rat) (m i j : Nat) : Rat:=if j < i * m then besM a b (j / m) (j % m) else 0
theorem matF_next (a b : Nat→Rat) (m i j : Nat) (hm : 0 < m) : lowF (matF a b m i) (besL a b i) (a i) (i * m) m j = matF a b m (i + 1) j:=by
 unfold lowF matF
 by_cases h : i * m ≤ j∧j < i * m + m
 ·rw [if_pos h,if_pos (by rw [Nat.succ_mul]; omega)]
  have h1 : j / m = i:=by
   rw [Nat.div_eq_iff hm]
   constructor
   ·exact h.1
   ·omega
  have h2 : j % m = j - i * m:=by
   have:=Nat.div_add_mod j m
   rw [h1,Nat.mul_comm] at this
   omega
  rw [h1,h2]
  rfl
 ·rw [if_neg h]
  by_cases h2 : j < i * m
  ·rw [if_pos h2,if_pos (by rw [Nat.succ_mul]; omega)]
  ·rw [if_neg h2,if_neg (by rw [Nat.succ_mul]; omega)]
def atR (fs : List Rat) (k : Nat) : Rat:=fs[k]?.getD 0
set_option maxHeartbeats 16000000 in
set_option maxRecDepth 100000 in
theorem beside_ok (ba oa ca n bb ob cb m : Nat) (fs gs : List Rat) (N : Nat) (w : World) (ha : FracsAt w (.slice (some ⟨ba,oa,none⟩) n ca) fs) (hb : FracsAt w (.slice (some ⟨bb,ob,none⟩) m cb) gs) (hn : n = fs.length) (hm : m = gs.length) (hn1 : n ≤ 40) (hm1 : m ≤ 40) (lf : ∀ f ∈ fs,Len f 1) (lg : ∀ f ∈ gs,Len f 1) (hN : N = max fs.length gs.length) (hbe : bothE fs gs = 0) :
  Calls Tryz.prog 26 #[.slice (some ⟨ba,oa,none⟩) n ca,.slice (some ⟨bb,ob,none⟩) m cb] w fun e w' => But [] w w' ∧
   ((¬ (∀ j,j < N→¬ 0 < upS (moreR fs gs) N j)∧e = .returned (.tuple #[.slice none 0 0,.iface 54 (.int .i64 8)])) ∨ ((∀ j,j < N→¬ 0 < upS (moreR fs gs) N j)∧∃ go ga,e = .returned (.tuple #[.slice (some ⟨go,0,none⟩) n n,.nilIface])∧MatAt w' go ga n m (matF (atR fs) (atR gs) m n))):=by
 have hca : chkE fs = 0:=by
  unfold bothE at hbe
  by_cases h : chkE fs = 0
  ·exact h
  ·rw [if_pos h] at hbe; exact hbe
 have hcb : chkE gs = 0:=by
  unfold bothE at hbe
  rw [if_neg (by rw [hca]; simp)] at hbe
  exact hbe
 obtain ⟨a0,a1,apos,aone⟩:=chk_some hca
 obtain ⟨b0,b1,bpos,bone⟩:=chk_some hcb
 have AL:=hide (always_any _ _ fs gs N w ha hb (by omega) (by omega) lf lg hN)
 rw [hbe] at AL
 have RN:=hide (rowsNew_any n m (by omega) (by omega) (by omega))
 have CL:=hide (fun W (h : But [] w W) => cloneLaw_any bb ob cb m gs W (hb.but h) hm (by omega) (by omega))
 have pA : ∀ i,0 ≤ atR fs i:=fun i => by
  unfold atR
  by_cases h : i < fs.length
  ·exact nonneg_at apos i h
  ·rw [List.getElem?_eq_none (by omega)]; decide
 have pB : ∀ i,0 ≤ atR gs i:=fun i => by
  unfold atR
  by_cases h : i < gs.length
  ·exact nonneg_at bpos i h
  ·rw [List.getElem?_eq_none (by omega)]; decide
 have LE:=hide (bes_len (atR fs) (atR gs) n m (fun k => len_at lf (Nat.le_refl _) k) (fun k => len_at lg (Nat.le_refl _) k) pA pB (by omega) (by omega))
 have HA:=hide ha
 have HN:=hide hn
 have m0 : 0 < m:=by omega
 have hnn : n < 1000000:=by omega
 clear ha hb lf lg hbe hca hcb apos bpos aone bone pA pB hm hN a0 a1 b0 b1 hn
 go_enter Tryz.func26,Tryz.ntmps26
 go_wp2_with fail
 refine (unhide AL).mono ?_
 rintro e w1 ⟨bl,f,rfl,hbl,hb1⟩
 have HBL:=hide (hbl (by first | rfl | trivial))
 have B1:=hide hb1
 clear hb1 hbl AL
 rw [show errV 0 = .nilIface from rfl]
 cases bl with
 | false =>
  go_wp2
  exact bodyPost_ret (v:=.tuple #[.slice none 0 0,.iface 54 (.int .i64 8)]) (by simp [results,Tryz.results26,go_sem]) rfl ⟨unhide B1,.inl ⟨fun h => by have:=(unhide HBL).2 h; simp at this,rfl⟩⟩
 | true =>
  go_wp2_with fail
  refine (unhide RN _).mono ?_
  rintro e w2 ⟨go,ga,rfl,hmat,hga,hgo,hgos,hb2⟩
  have B2:=hide ((unhide B1).trans' hb2)
  have oga : w.heap.size ≤ ga:=by have:=(unhide B1).size; omega
  have MT:=hide hmat
  clear hb2 hmat RN
  go_wp2_with fail
  refine (unhide CL _ (unhide B2)).mono ?_
  rintro e w3 ⟨gl,cl,rfl,hrl,hgl,hgls,hb3⟩
  have B3:=hide ((unhide B2).trans' hb3)
  have gal : ga < w2.heap.size:=by omega
  have MT3 : Hid (MatAt w3 go ga n m (fun _ => 0)):=⟨(unhide MT).all.but hb3 gal,fun i hi => hb3.cell_some ((unhide MT).rows i hi) (by simp)⟩
  have RL3:=hide hrl
  have S3 : ga < w3.heap.size∧go < w3.heap.size∧gl < w3.heap.size:=by have:=hb3.size; omega
  have nal : ga ≠ gl∧go ≠ gl∧ga ≠ go:=by omega
  have ogl : w.heap.size ≤ gl:=by have:=(unhide B2).size; omega
  clear hb3 hrl CL MT B1 B2
  go_wp2
  go_loopw [44] (fun iv wr => ∃ k : Nat,k ≤ n∧iv = .int .i64 (k : Int)∧Hid (MatAt wr go ga n m (matF (atR fs) (atR gs) m k)∧RowOf wr gl m (besL (atR fs) (atR gs) k)∧(ga < wr.heap.size∧go < wr.heap.size∧gl < wr.heap.size)∧But [] w wr)) (fun iv _ => n - (intOf iv).toNat)
  case atStart =>
   refine ⟨0,Nat.zero_le _,rfl,⟨(unhide MT3).all.congr (fun j _ => ?_),(unhide MT3).rows⟩,unhide RL3,S3,unhide B3⟩
   unfold matF
   rw [if_neg (by omega)]
  case round =>
   obtain ⟨k,hk,rfl,HI⟩:=hrel
   rename World => wr
   clear MT3 RL3 S3 B3
   by_cases hlt : k < n
   ·obtain ⟨hmt,hrl,hsz,hbw⟩:=unhide HI
    obtain ⟨sr,xr,yr,pr,⟨r0,r1,r2,r3⟩,hfr⟩:=((unhide HA).but hbw).get k hlt
    have HFR:=hide hfr
    have bA : But [] wr (wr.alloc (.cells #[.bool sr,.int .u64 xr,.int .u64 yr,.pointer pr] 29)):=(But.refl _ _).alloc _
    have k12 : Hid (P4 (wr.alloc (.cells #[.bool sr,.int .u64 xr,.int .u64 yr,.pointer pr] 29)) wr.heap.size sr xr yr pr):=⟨by simp,by simp,by simp,by simp⟩
    have DM : Hid (MatAt (wr.alloc (.cells #[.bool sr,.int .u64 xr,.int .u64 yr,.pointer pr] 29)) go ga n m (matF (atR fs) (atR gs) m k)):=⟨hmt.all.but bA hsz.1,fun i hi => bA.cell_some (hmt.rows i hi) (by simp)⟩
    have DR:=hide (hrl.but bA hsz.2.2)
    have DF:=hide (hfr.but bA)
    have DB:=hide (hbw.trans' bA)
    have DS : ga < (wr.alloc (.cells #[.bool sr,.int .u64 xr,.int .u64 yr,.pointer pr] 29)).heap.size∧go < (wr.alloc (.cells #[.bool sr,.int .u64 xr,.int .u64 yr,.pointer pr] 29)).heap.size∧gl < (wr.alloc (.cells #[.bool sr,.int .u64 xr,.int .u64 yr,.pointer pr] 29)).heap.size:=by have:=bA.size; omega
    clear hmt hrl hbw hfr bA HI
    go_wp2
    generalize wr.heap.size = g12 at *
    generalize wr.alloc (.cells #[.bool sr,.int .u64 xr,.int .u64 yr,.pointer pr] 29) = U at *
    have hle:=unhide LE k hlt
    have hkm : k * m + m ≤ n * m:=by
     have:=Nat.mul_le_mul_right m (show k + 1 ≤ n by omega)
     rw [Nat.succ_mul] at this
     exact this
    have hnm : n * m ≤ 40 * 40:=Nat.mul_le_mul hn1 hm1
    refine beside_region 12 _ _ U go n k (some ⟨ga,k * m * 4,none⟩) m m (some ⟨gl,0,none⟩) m cl sr xr yr pr g12 (fun W W' => RowOf W' ga (n * m) (lowF (matF (atR fs) (atR gs) m k) (besL (atR fs) (atR gs) k) (atR fs k) (k * m) m)∧RowOf W' gl m (lowL (besL (atR fs) (atR gs) k) (atR fs k) m)∧But [ga,gl] W W') (by simp) (by simp [Act.eval]) (by simp [Act.eval]) (by simp [Act.eval]) (by simp [Act.eval]) hlt hnn (by rw [Nat.zero_add]; exact (unhide DM).rows k hlt) (unhide k12) (fun W hb => (lowest_any ga gl (n * m) m cl (k * m) _ _ (atR fs k) _ W ((unhide DM).all.but hb DS.1) ((unhide DR).but hb DS.2.2) ((unhide DF).but hb) (Nat.lt_of_lt_of_le DS.1 hb.size) (Nat.lt_of_lt_of_le DS.2.2 hb.size) nal.1 hkm (by omega) m0 hle.1 hle.2).mono (fun e W' ⟨⟨v,hv⟩,h1,h2,h3⟩ => ⟨v,hv,h1,h2,h3⟩)) ?_
    intro w4 v55 w5 hb4 ⟨hA5,hL5,hb5⟩
    simp only [putted,List.cons_append,List.nil_append,List.foldl_cons,List.foldl_nil,Act.put,List.setIfInBounds_toArray,List.set_cons_zero,List.set_cons_succ]
    have J1 : Hid (MatAt w5 go ga n m (matF (atR fs) (atR gs) m (k + 1))):=⟨hA5.congr (fun j _ => matF_next _ _ m k j m0),fun i hi => hb5.cell_some (hb4.cell_some ((unhide DM).rows i hi) (by simp)) (by simp; omega)⟩
    have J2 : Hid (RowOf w5 gl m (besL (atR fs) (atR gs) (k + 1))):=hL5.congr (fun j hj => by unfold lowL; rw [if_pos hj]; rfl)
    have J3 : ga < w5.heap.size∧go < w5.heap.size∧gl < w5.heap.size:=by have:=hb4.size; have:=hb5.size; omega
    have J4:=hide (((unhide DB).trans' hb4).trans hb5 (fun x hx => by simp at hx; rcases hx with rfl | rfl <;> exact .inr (by omega)))
    clear hA5 hL5 hb5 hb4 DM DR DF DB DS k12 hle
    go_wp2
    exact ⟨⟨k + 1,by omega,by go_num,unhide J1,unhide J2,J3,unhide J4⟩,by simp [intOf]; omega⟩
   ·obtain rfl : k = n:=by omega
    go_wp2
    exact bodyPost_ret (v:=.tuple #[.slice (some ⟨go,0,none⟩) k k,.nilIface]) (by simp [results,Tryz.results26,go_sem]) rfl ⟨(unhide HI).2.2.2,.inr ⟨(unhide HBL).1 (by first | rfl | trivial),go,ga,rfl,(unhide HI).1⟩⟩
set_option maxHeartbeats 8000000 in
set_option maxRecDepth 100000 in
theorem beside_err (va vb : Value) (fs gs : List Rat) (N : Nat) (w : World) (ha : FracsAt w va fs) (hb : FracsAt w vb gs) (hn : fs.length ≤ 1000) (hm : gs.length ≤ 1000) (lf : ∀ f ∈ fs,Len f 1) (lg : ∀ f ∈ gs,Len f 1) (hN : N = max fs.length gs.length) (hbe : bothE fs gs ≠ 0) :
  Calls Tryz.prog 26 #[va,vb] w fun e w' => e = .returned (.tuple #[.slice none 0 0,.iface 54 (.int .i64 (bothE fs gs))])∧But [] w w':=by
 have AL:=hide (always_any va vb fs gs N w ha hb hn hm lf lg hN)
 obtain ⟨q,cap,rfl,-,-⟩:=id ha
 obtain ⟨q',cap',rfl,-,-⟩:=id hb
 obtain ⟨be,hb0⟩ : ∃ be,be = bothE fs gs:=⟨_,rfl⟩
 rw [← hb0] at AL hbe ⊢
 have ev : errV be = .iface 54 (.int .i64 be):=by unfold errV; rw [if_neg hbe]
 rw [ev] at AL
 clear ha hb hb0 lf lg ev
 go_enter Tryz.func26,Tryz.ntmps26
 go_wp2_with fail
 refine (unhide AL).mono ?_
 rintro e w1 ⟨bl,f,rfl,-,hb1⟩
 have B1:=hide hb1
 clear hb1 AL
 go_wp2
 exact bodyPost_ret (v:=.tuple #[.slice none 0 0,.iface 54 (.int .i64 be)]) (by simp [results,Tryz.results26,go_sem]) rfl ⟨rfl,unhide B1⟩
end Go.Proofs.YtikgmhpbdcdogaaGreatDoor

namespace Go.Proofs.YtikgmhpbdcdogaaGreatDoor
open Go.RowKit

set_option maxHeartbeats 16000000 in
set_option maxRecDepth 100000 in
theorem keepSum_any (b off cap n : Nat) (fs : List Rat) (w : World) (hv : FracsAt w (.slice (some ⟨b,off,none⟩) n cap) fs) (_hN : n = fs.length) (hn : n ≤ 40) (lf : ∀ f ∈ fs,Len f 10000) :
  Calls Tryz.prog 70 #[.slice (some ⟨b,off,none⟩) n cap] w fun e w' => ∃ v,e = .returned v∧FracAt w' v (sgR (atR fs) n)∧But [] w w':=by
 have LA:=hide (fun k => len_at lf (by omega) k)
 have LS:=hide (fun k => len_sgR 10000 (atR fs) (fun k => len_at lf (by omega) k) k)
 obtain ⟨ws,wx,FW,CW⟩:=whole_is 0 (by omega) (by omega)
 have HFW:=hide FW
 have HCW:=hide CW
 have HV:=hide hv
 have bA : But [] w (w.alloc (.cells #[.bool false,.int .u64 0,.int .u64 0,.pointer none] 29)):=(But.refl _ _).alloc _
 have X2:=hide (BoxAt.new w false 0 0 none 0 29 (zero_at _))
 have BA:=hide bA
 clear hv bA FW CW _hN lf
 go_enter Tryz.func70,Tryz.ntmps70
 go_wp2_with fail
 refine (unhide HCW _).mono ?_
 rintro e w1 ⟨rfl,hb1⟩
 have hal : But [] w1 (w1.alloc (.cells #[.bool ws,.int .u64 wx,.int .u64 0,.pointer none] 29)):=(But.refl _ _).alloc _
 have X21:=hide (((unhide X2).but hb1).but hal)
 have l2 : w.heap.size < w1.heap.size:=by have:=((unhide X2).but hb1).lt; exact this
 have X3:=hide (BoxAt.new w1 ws wx 0 none ((0 : Int) : Rat) 29 (unhide HFW w1))
 have B1:=hide (((unhide BA).trans' hb1).trans' hal)
 clear hb1 hal X2 BA HCW
 go_wp2
 generalize hg3 : w1.heap.size = g3 at *
 generalize w1.alloc (.cells #[.bool ws,.int .u64 wx,.int .u64 0,.pointer none] 29) = V at *
 generalize hg2 : w.heap.size = g2 at *
 go_loopw [4] (fun iv wr => ∃ k : Nat,k ≤ n∧iv = .int .i64 (k : Int)∧Hid (BoxAt wr g3 (sgR (atR fs) k)∧BoxAt wr g2 0∧But [] w wr)) (fun iv _ => n - (intOf iv).toNat)
 case atStart => exact ⟨0,Nat.zero_le _,rfl,unhide X3,unhide X21,unhide B1⟩
 case round =>
  obtain ⟨k,hk,rfl,HI⟩:=hrel
  rename World => wr
  clear X3 X21 B1
  by_cases hlt : k < n
  ·go_wp2
   obtain ⟨⟨⟨t3,a3,b3,q3,k3,f3⟩,z3⟩,hx2,hbw⟩:=unhide HI
   obtain ⟨sr,xr,yr,pr,r0,hfr⟩:=((unhide HV).but hbw).get k hlt
   refine sum_region 5 _ _ wr b off n cap k t3 a3 b3 q3 sr xr yr pr (sgR (atR fs) k) (fs[k]?.getD 0) g3 (by simp) (by simp [Act.eval]) k3 z3 (by simp [Act.eval]) (by simp [Act.eval]) hlt (by omega) k3 r0 (fun w' hb => fracAdd_gen 410000 10000 (by omega) _ _ _ _ w' (f3.but hb) (hfr.but hb) ((unhide LS k).mono (by omega)) (unhide LA k)) ?_
   intro w2 s5 x5 y5 p5 hb2 hf2
   simp only [putted,List.foldl_cons,List.foldl_nil,Act.put,List.setIfInBounds_toArray,List.set_cons_zero,List.set_cons_succ]
   have hP:=put4_but w2 g3 s5 x5 y5 p5
   have J3:=hide (((unhide HI).1.but hb2).put hf2)
   have J2:=hide ((hx2.but hb2).beside hP (by simp; omega) (fun g hg => by simp at hg; subst hg; exact ((unhide HI).1.but hb2).bool))
   have JB:=hide ((hbw.trans' hb2).trans hP (fun x hx => by simp at hx; subst hx; exact .inr (by omega)))
   generalize put4 w2 g3 s5 x5 y5 p5 = V2 at *
   clear hP hf2 hb2 k3 f3 z3 r0 hfr hx2 hbw HI
   go_wp2
   exact ⟨⟨k + 1,by omega,by go_num,unhide J3,unhide J2,unhide JB⟩,by simp [intOf]; omega⟩
  ·obtain rfl : k = n:=by omega
   obtain ⟨⟨⟨t6,a6,b6,q6',⟨d0,d1,d2,d3⟩,hf6⟩,z6⟩,⟨⟨t2,a2,b2,q2,⟨c0,c1,c2,c3⟩,-⟩,z2⟩,hbw⟩:=unhide HI
   have HF6:=hide hf6
   have HBW:=hide hbw
   have P2 : Hid (P4 wr g2 t2 a2 b2 q2):=⟨c0,c1,c2,c3⟩
   clear HI hf6 hbw
   go_wp2
   have hP:=put4_but wr g2 t6 a6 b6 q6'
   obtain ⟨m0,m1,m2,m3⟩:=put4_p4 wr g2 t6 a6 b6 q6' (unhide P2)
   have hF : But [] w (put4 wr g2 t6 a6 b6 q6'):=(unhide HBW).trans hP (fun x hx => by simp at hx; subst hx; exact .inr (by omega))
   have hff:=(unhide HF6).over (unhide P2).1 hP
   change bodyPost _ _ _ _ _ (put4 wr g2 t6 a6 b6 q6')
   generalize put4 wr g2 t6 a6 b6 q6' = F at *
   exact bodyPost_ret (v:=.agg #[.bool t6,.int .u64 a6,.int .u64 b6,.pointer q6']) (by simp [results,Tryz.results70,go_sem,m0,m1,m2,m3]) rfl ⟨_,rfl,hff,hF⟩
set_option maxHeartbeats 16000000 in
set_option maxRecDepth 100000 in
theorem likes_eq (b off cap b2 of2 c2 n : Nat) (fs : List Rat) (w : World) (ha : FracsAt w (.slice (some ⟨b,off,none⟩) n cap) fs) (hb : FracsAt w (.slice (some ⟨b2,of2,none⟩) n c2) fs) (hn : n ≤ 1000) (lf : ∀ f ∈ fs,Len f 1000000) (htab : Lib.TabIs Tryz.prog w "internal/strconv.uint64pow10" .u64 Lib.pow10Tab) :
  Calls Tryz.prog 13 #[.slice (some ⟨b,off,none⟩) n cap,.slice (some ⟨b2,of2,none⟩) n c2] w fun e w' => e = .returned (.bool true)∧But [] w w':=by
 have LA:=hide (fun k => len_at lf (by omega) k)
 have HA:=hide ha
 have HB:=hide hb
 have HT:=hide htab
 clear ha hb lf htab
 go_enter Tryz.func13,Tryz.ntmps13
 go_wp2
 go_loopw [5] (fun iv wr => ∃ k : Nat,k ≤ n∧iv = .int .i64 (k : Int)∧Hid (But [] w wr)) (fun iv _ => n - (intOf iv).toNat)
 case atStart => exact ⟨0,Nat.zero_le _,rfl,But.refl _ _⟩
 case round =>
  obtain ⟨k,hk,rfl,HI⟩:=hrel
  rename World => wr
  by_cases hlt : k < n
  ·go_wp2
   obtain ⟨s1,x1,y1,p1,r1,hf1⟩:=((unhide HA).but (unhide HI)).get k hlt
   obtain ⟨s2,x2,y2,p2,r2,hf2⟩:=((unhide HB).but (unhide HI)).get k hlt
   refine likes_region 6 _ _ wr b off n cap b2 of2 c2 k s1 x1 y1 p1 s2 x2 y2 p2 (by simp) (by simp [Act.eval]) (by simp [Act.eval]) (by simp [Act.eval]) hlt (by omega) r1 r2 (fun w' hb => like_len _ _ (fs[k]?.getD 0) w' (hf1.but hb) (hf2.but hb) (unhide LA k) (TabIs.but (unhide HT) ((unhide HI).trans' hb))) ?_
   intro w2 hb2
   simp only [putted,List.foldl_cons,List.foldl_nil,Act.put,List.setIfInBounds_toArray,List.set_cons_zero,List.set_cons_succ]
   have JB:=hide ((unhide HI).trans' hb2)
   clear hb2 r1 r2 hf1 hf2 HI
   go_wp2
   exact ⟨⟨k + 1,by omega,by go_num,unhide JB⟩,by simp [intOf]; omega⟩
  ·obtain rfl : k = n:=by omega
   go_wp2
   go_ret
   exact ⟨rfl,unhide HI⟩
end Go.Proofs.YtikgmhpbdcdogaaGreatDoor

namespace Go.Proofs.YtikgmhpbdcdogaaGreatDoor
open Go.RowKit

/-- a row of the matrix -/
theorem MatAt.row {w : World} {go ga n m : Nat} {F : Nat→Rat} (h : MatAt w go ga n m F) (i : Nat) (hi : i < n) : FracsAt w (.slice (some ⟨ga,i * m * 4,none⟩) m m) ((List.range m).map fun k => F (i * m + k)):=by
 refine ⟨some ⟨ga,i * m * 4,none⟩,m,by simp,by simp,fun k f hf => ⟨ga,i * m * 4,rfl,?_⟩⟩
 have hk : k < m:=by have:=(List.getElem?_eq_some_iff.1 hf).1; simpa using this
 rw [List.getElem?_map,List.getElem?_range hk,Option.map_some] at hf
 obtain rfl:=Option.some.inj hf
 have hkm : i * m + m ≤ n * m:=by
  have:=Nat.mul_le_mul_right m (show i + 1 ≤ n by omega)
  rw [Nat.succ_mul] at this
  exact this
 have h1:=h.all.told (i * m + k) (by omega)
 rw [Nat.add_mul] at h1
 exact h1
theorem MatAt.but {w w' : World} {go ga n m : Nat} {F : Nat→Rat} (h : MatAt w go ga n m F) (hb : But [] w w') (hg : ga < w.heap.size) : MatAt w' go ga n m F:=⟨h.all.but hb hg,fun i hi => hb.cell_some (h.rows i hi) (by simp)⟩
set_option maxHeartbeats 16000000 in
set_option maxRecDepth 100000 in
theorem marginals_ok (go ga n m ba oa ca bb ob cb : Nat) (F : Nat→Rat) (fs gs : List Rat) (w : World) (hM : MatAt w go ga n m F) (hgl : ga < w.heap.size) (ha : FracsAt w (.slice (some ⟨ba,oa,none⟩) n ca) fs) (hb : FracsAt w (.slice (some ⟨bb,ob,none⟩) m cb) gs) (hm : m = gs.length) (hn1 : n ≤ 40) (hm1 : m ≤ 40) (hm0 : 0 < m)
  (lF : ∀ j,j < n * m→Len (F j) 10000) (la : ∀ f ∈ fs,Len f 1) (lb : ∀ f ∈ gs,Len f 1) (hpos : ∀ i,i < n→∀ k,k < m→0 ≤ F (i * m + k)) (hrow : ∀ i,i < n→sgR (fun k => F (i * m + k)) m = atR fs i) (hcol : ∀ k,k < m→sgR (fun i => F (i * m + k)) n = atR gs k)
  (htab : Lib.TabIs Tryz.prog w "internal/strconv.uint64pow10" .u64 Lib.pow10Tab) :
  Calls Tryz.prog 27 #[.slice (some ⟨go,0,none⟩) n n,.slice (some ⟨ba,oa,none⟩) n ca,.slice (some ⟨bb,ob,none⟩) m cb] w fun e w' => e = .returned (.bool true)∧But [] w w':=by
 have hmk:=fun wx => run_makeF wx m (by omega)
 have hin : ∀ i k,i < n→k < m→i * m + k < n * m:=fun i k hi hk => by
  have:=Nat.mul_le_mul_right m (show i + 1 ≤ n by omega)
  rw [Nat.succ_mul] at this
  omega
 have SM : Hid (∀ i,i < n→∀ W,MatAt W go ga n m F→Calls Tryz.prog 70 #[.slice (some ⟨ga,i * m * 4,none⟩) m m] W fun e w' => ∃ v,e = .returned v∧FracAt w' v (atR fs i)∧But [] W w'):=fun i hi W hW => by
  have h:=keepSum_any ga (i * m * 4) m m _ W (hW.row i hi) (by simp) hm1 (fun f hf => by
   obtain ⟨k,hk,rfl⟩:=List.mem_map.1 hf
   exact lF _ (hin i k hi (List.mem_range.1 hk)))
  have e : sgR (atR ((List.range m).map fun k => F (i * m + k))) m = atR fs i:=by
   rw [← hrow i hi]
   exact sgR_congr _ _ m (fun k hk => row_get m _ k hk)
  rw [e] at h
  exact h
 have LK : Hid (∀ f va vb W,But [] w W→FracAt W va f→FracAt W vb f→Len f 1000000→Calls Tryz.prog 18 #[va,vb] W fun e w' => e = .returned (.bool true)∧But [] W w'):=fun f va vb W hb h1 h2 hl => like_len va vb f W h1 h2 hl (TabIs.but htab hb)
 have lcol : ∀ k i,k < m→i ≤ n→Len (sgR (fun r => F (r * m + k)) i) 410000:=fun k i hk hi => by
  have key : ∀ i,i ≤ n→Len (sgR (fun r => F (r * m + k)) i) (i * 10001 + 1):=by
   intro i
   induction i with
   | zero => exact fun _ => len_zero _ (by omega)
   | succ i ih =>
    intro hi
    have h1:=ih (by omega)
    show Len (sgR (fun r => F (r * m + k)) i + F (i * m + k)) _
    exact len_add h1 (lF _ (hin i k (by omega) hk)) _ (by omega)
  exact (key i hi).mono (by omega)
 have LC:=hide lcol
 have LF:=hide lF
 have LI : Hid (∀ gc W,But [] w W→RowOf W gc m (fun j => sgR (fun r => F (r * m + j)) n)→Calls Tryz.prog 13 #[.slice (some ⟨gc,0,none⟩) m m,.slice (some ⟨bb,ob,none⟩) m cb] W fun e w' => e = .returned (.bool true)∧But [] W w'):=fun gc W hbw hr => by
  refine likes_eq gc 0 m bb ob cb m gs W ?_ (hb.but hbw) (by omega) (fun f hf => (lb f hf).mono (by omega)) (TabIs.but htab hbw)
  have h:=(hr.congr (G:=fun j => atR gs j) (fun j hj => hcol j hj)).fracs
  have e : (List.range m).map (fun j => atR gs j) = gs:=by
   apply List.ext_getElem?
   intro j
   by_cases hj : j < m
   ·rw [List.getElem?_map,List.getElem?_range hj,Option.map_some]
    unfold atR
    rw [List.getElem?_eq_getElem (by omega)]
    rfl
   ·rw [List.getElem?_eq_none (by simpa using hj),List.getElem?_eq_none (by omega)]
  rw [e] at h
  exact h
 have LA:=hide (fun k => len_at la (Nat.le_refl _) k)
 have HM:=hide hM
 have HA:=hide ha
 have HP:=hide hpos
 have HIN:=hide hin
 clear hM ha hb lF la lb hpos hrow hcol htab lcol hm hin
 obtain ⟨V,hV⟩ : ∃ V,V = w.alloc (.cells (madeCells #[.bool false,.int .u64 0,.int .u64 0,.pointer none] (m * 4)) 29):=⟨_,rfl⟩
 have rV:=RowOf.made w m
 rw [← hV] at rV
 have bV : But [] w V:=by rw [hV]; exact (But.refl _ _).alloc _
 have lV : w.heap.size < V.heap.size:=by rw [hV]; simp
 have RV:=hide rV
 have BV:=hide bV
 clear rV bV
 go_enter Tryz.func27,Tryz.ntmps27
 go_wp2
 rw [← hV]
 clear hV hmk
 generalize hgc : w.heap.size = gc at *
 go_loopw [8] (fun iv wr => ∃ i : Nat,i ≤ n∧iv = .int .i64 (i : Int)∧Hid (RowOf wr gc m (fun j => sgR (fun r => F (r * m + j)) i)∧gc < wr.heap.size∧But [] w wr)) (fun iv _ => n - (intOf iv).toNat)
 case atStart => exact ⟨0,Nat.zero_le _,rfl,unhide RV,lV,unhide BV⟩
 case round =>
  obtain ⟨i,hi,rfl,HI⟩:=hrel
  rename World => wr
  clear RV lV BV
  by_cases hlt : i < n
  ·go_wp2
   have hmt:=(unhide HM).but (unhide HI).2.2 (by omega)
   obtain ⟨sa,xa,ya,pa,ka,fa⟩:=((unhide HA).but (unhide HI).2.2).get i hlt
   have gaw : ga < wr.heap.size:=by have:=(unhide HI).2.2.size; omega
   refine marg_region7 7 _ _ wr go n i (some ⟨ga,i * m * 4,none⟩) m m ba oa ca (some ⟨bb,ob,none⟩) cb sa xa ya pa (atR fs i) (by simp) (by simp [Act.eval]) (by simp [Act.eval]) (by simp [Act.eval]) (by simp [Act.eval]) hlt (by omega) (by rw [Nat.zero_add]; exact hmt.rows i hlt) ka (fun W hb => unhide SM i hlt W (hmt.but hb gaw)) (fun W v hb hv => unhide LK (atR fs i) v _ W ((unhide HI).2.2.trans' hb) hv (fa.but hb) ((unhide LA i).mono (by omega))) ?_
   intro w1 v13 hb1
   simp only [putted,Nat.zero_add,List.foldl_cons,List.foldl_nil,Act.put,List.setIfInBounds_toArray,List.set_cons_zero,List.set_cons_succ]
   have R1:=hide ((unhide HI).1.but hb1 (unhide HI).2.1)
   have G1 : gc < w1.heap.size:=Nat.lt_of_lt_of_le (unhide HI).2.1 hb1.size
   have B1:=hide ((unhide HI).2.2.trans' hb1)
   clear hb1 hmt ka fa gaw HI
   go_wp2
   go_loopw [9] (fun kv wx => ∃ k : Nat,k ≤ m∧kv = .int .i64 (k : Int)∧Hid (RowOf wx gc m (fun j => sgR (fun r => F (r * m + j)) (if j < k then i + 1 else i))∧gc < wx.heap.size∧But [] w wx)) (fun kv _ => m - (intOf kv).toNat)
   case atStart =>
    refine ⟨0,Nat.zero_le _,rfl,(unhide R1).congr (fun j _ => ?_),G1,unhide B1⟩
    rw [if_neg (by omega)]
   case round =>
    obtain ⟨k,hk,rfl,HJ⟩:=hrel
    rename World => wx
    clear R1 G1 B1
    by_cases hkt : k < m
    ·have hmt:=(unhide HM).but (unhide HJ).2.2 (by omega)
     have rw0:=hmt.rows i hlt
     obtain ⟨s2,x2,y2,p2,⟨k0,k1,k2,k3⟩,f2⟩:=(hmt.row i hlt).get k hkt
     rw [row_get m _ k hkt] at f2
     have hp:=unhide HP i hlt k hkt
     have SG:=hide (fracSign_any _ _ wx f2)
     obtain ⟨sg,hsg⟩ : ∃ sg,sg = (F (i * m + k)).num.sign:=⟨_,rfl⟩
     have hs0 : ¬ sg < 0:=by
      rw [hsg]
      have h1:=Rat.num_nonneg.2 hp
      rcases Int.lt_trichotomy (F (i * m + k)).num 0 with h | h | h
      ·omega
      ·rw [h]; decide
      ·rw [Int.sign_eq_one_of_pos h]; omega
     rw [← hsg] at SG
     have c0i : wx.cell? ⟨go,i,none⟩ = some (.slice (some ⟨ga,i * m * 4,none⟩) m m):=rw0
     have K2 : Hid (P4o wx ga (i * m * 4 + k * 4) s2 x2 y2 p2):=⟨k0,k1,k2,k3⟩
     have F2:=hide f2
     have MT:=hide hmt
     clear hsg hp f2 hmt rw0
     go_wp2_with fail
     refine (unhide SG).mono ?_
     rintro e w2 ⟨rfl,hb2⟩
     have gaw : ga < wx.heap.size:=by have:=(unhide HJ).2.2.size; omega
     have MT2:=hide ((unhide MT).but hb2 gaw)
     have R2:=hide ((unhide HJ).1.but hb2 (unhide HJ).2.1)
     have G2 : gc < w2.heap.size:=Nat.lt_of_lt_of_le (unhide HJ).2.1 hb2.size
     have B2:=hide ((unhide HJ).2.2.trans' hb2)
     have K22:=hide ((unhide K2).but hb2 (by simp))
     have F22:=hide ((unhide F2).but hb2)
     clear hb2 SG k0 k1 k2 k3 c0i MT K2 F2 HJ
     go_wp2
     obtain ⟨s1,x1,y1,p1,e1,f1⟩:=(unhide R2).told k hkt
     rw [if_neg (by omega)] at f1
     refine marg_region14 14 _ _ w2 gc (k * 4) go n i ga (i * m * 4) m m k s1 x1 y1 p1 s2 x2 y2 p2 _ _ (by simp) e1 (unhide R2).loose (by simp [Act.eval]) (by simp [Act.eval]) (by simp [Act.eval]) (by simp [Act.eval]) rfl hkt (by omega) hlt (by omega) e1 (by rw [Nat.zero_add]; exact (unhide MT2).rows i hlt) (unhide K22) (fun W hb => fracAdd_gen 410000 10000 (by omega) _ _ _ _ W (f1.but hb) ((unhide F22).but hb) (unhide LC k i hkt (by omega)) (unhide LF _ (unhide HIN i k hlt hkt))) ?_
     intro w3 s3 x3 y3 p3 hb3 hf3
     simp only [putted,Nat.zero_add,List.foldl_cons,List.foldl_nil,Act.put,List.setIfInBounds_toArray,List.set_cons_zero,List.set_cons_succ]
     have hr3:=(unhide R2).but hb3 G2
     have J1:=hide (hr3.set hkt s3 x3 y3 p3 _ hf3)
     have hP:=but_setCells w3 gc [.bool s3,.int .u64 x3,.int .u64 y3,.pointer p3] (k * 4)
     have JB:=hide (((unhide B2).trans' hb3).trans hP (fun x hx => by simp at hx; subst hx; exact .inr (by omega)))
     have JG : gc < (w3.setCells gc (k * 4) [.bool s3,.int .u64 x3,.int .u64 y3,.pointer p3]).heap.size:=Nat.lt_of_lt_of_le (Nat.lt_of_lt_of_le G2 hb3.size) hP.size
     generalize w3.setCells gc (k * 4) [.bool s3,.int .u64 x3,.int .u64 y3,.pointer p3] = V3 at *
     clear hP hf3 hb3 hr3 e1 f1 MT2 R2 B2 K22 F22 G2
     go_wp2
     refine ⟨⟨k + 1,by omega,by go_num,(unhide J1).congr (fun j _ => ?_),JG,unhide JB⟩,by simp [intOf]; omega⟩
     unfold setF
     by_cases e : j = k
     ·rw [if_pos e,e,if_pos (by omega)]
      rfl
     ·rw [if_neg e]
      show sgR _ (if j < k then i + 1 else i) = sgR _ (if j < k + 1 then i + 1 else i)
      by_cases h : j < k
      ·rw [if_pos h,if_pos (by omega)]
      ·rw [if_neg h,if_neg (by omega)]
    ·obtain rfl : k = m:=by omega
     go_wp2
     refine ⟨⟨i + 1,by omega,by go_num,(unhide HJ).1.congr (fun j hj => ?_),(unhide HJ).2.1,(unhide HJ).2.2⟩,by simp [intOf]; omega⟩
     rw [if_pos hj]
  ·obtain rfl : i = n:=by omega
   go_wp2_with fail
   refine (unhide LI gc wr (unhide HI).2.2 (unhide HI).1).mono ?_
   rintro e w2 ⟨rfl,hb2⟩
   have B2:=hide ((unhide HI).2.2.trans' hb2)
   clear hb2
   go_wp2
   go_ret
   exact ⟨rfl,unhide B2⟩
end Go.Proofs.YtikgmhpbdcdogaaGreatDoor
