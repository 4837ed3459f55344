/- Means, as the Go text of package claims reckons them. -/
import Derived.Test.YtikgmhpbdcdogaaGreatDoorZF10
import Derived.Test.YtikgmhpbdcdogaaGreatDoorZF8
namespace Go.Proofs.YtikgmhpbdcdogaaGreatDoor
open Go.RowKit

/-- the mean of a number that hangs on the amount, of the first k amounts -/
def meanR (fs : List Rat) (g : Nat→Int) : Nat→Rat
 | 0 => 0
 | k + 1 => meanR fs g k + fs[k]?.getD 0 * ((g k : Int) : Rat)
theorem len_meanR (c : Nat) (fs : List Rat) (g : Nat→Int) (h : ∀ f ∈ fs,Len f c) (hg : ∀ k,k < fs.length→(g k).natAbs < 18446744073709551616) : ∀ k,k ≤ fs.length→Len (meanR fs g k) (k * (c + 2) + 1)
 | 0,_ => len_zero _ (by omega)
 | k + 1,hk => by
  have ih:=len_meanR c fs g h hg k (by omega)
  show Len (meanR fs g k + fs[k]?.getD 0 * ((g k : Int) : Rat)) _
  rw [List.getElem?_eq_getElem (by omega),Option.getD_some]
  exact len_add ih (len_mul (h _ (List.getElem_mem (by omega))) (len_int (g k) (hg k (by omega))) (c + 1) (Nat.le_refl _)) _ (by rw [Nat.succ_mul]; omega)

set_option maxHeartbeats 16000000 in
set_option maxRecDepth 100000 in
theorem mean_any (v : Value) (fs : List Rat) (c : Nat) (fo : FuncId) (fe : Array Value) (g : Nat→Int) (w : World) (hv : FracsAt w v fs) (hn : fs.length ≤ 1000) (lf : ∀ f ∈ fs,Len f c) (hc : c ≤ 100)
  (hg : ∀ k,k < fs.length→0 ≤ g k∧g k < 4294967296) (EN : ∀ args W,(callFunc fo args).run Tryz.prog W = .ok (.enter fo args) W)
  (OF : ∀ k,k < fs.length→∀ W,But [] w W→Calls Tryz.prog fo (#[.int .i64 (k : Int)] ++ fe) W fun e w' => e = .returned (.int .i64 (g k))∧But [] W w') :
  Calls Tryz.prog 45 #[v,.func (.func fo) #[] fe] w fun e w' => ∃ s x y p,e = .returned (.agg #[.bool s,.int .u64 x,.int .u64 y,.pointer p])∧FracAt w' (.agg #[.bool s,.int .u64 x,.int .u64 y,.pointer p]) (meanR fs g fs.length)∧But [] w w':=by
 obtain ⟨q,cap,rfl,hcap,-⟩:=id hv
 obtain ⟨n,hN⟩ : ∃ n,n = fs.length:=⟨_,rfl⟩
 rw [← hN] at hn hcap ⊢
 rw [← hN] at hv
 have HV:=hide hv
 have HN:=hide hN
 have HEN:=hide EN
 have HOF:=hide OF
 have HG:=hide hg
 clear hv hN EN OF hg
 obtain ⟨W,hW⟩ : ∃ W,W = (w.alloc (.cells #[.bool false,.int .u64 0,.int .u64 0,.pointer none] 29)).alloc (.cells #[.bool false,.int .u64 0,.int .u64 0,.pointer none] 29):=⟨_,rfl⟩
 have x4 : BoxAt W w.heap.size 0:=by rw [hW]; exact (BoxAt.new w false 0 0 none 0 29 (zero_at _)).but ((But.refl _ _).alloc _)
 have x5 : BoxAt W (w.heap.size + 1) 0:=by
  rw [hW]
  have h:=BoxAt.new (w.alloc (.cells #[.bool false,.int .u64 0,.int .u64 0,.pointer none] 29)) false 0 0 none 0 29 (zero_at _)
  rw [show (w.alloc (.cells #[.bool false,.int .u64 0,.int .u64 0,.pointer none] 29)).heap.size = w.heap.size + 1 from by simp] at h
  exact h
 have bW : But [] w W:=by rw [hW]; exact ((But.refl _ _).alloc _).alloc _
 have X4:=hide x4
 have X5:=hide x5
 have BW:=hide bW
 clear x4 x5 bW
 go_enter Tryz.func45,Tryz.ntmps45
 go_wp2
 rw [← hW]
 clear hW
 generalize hg5 : w.heap.size + 1 = g5 at *
 generalize hg4 : w.heap.size = g4 at *
 go_loopw [10] (fun iv wr => ∃ k : Nat,k ≤ n∧iv = .int .i64 (k : Int)∧Hid (BoxAt wr g5 (meanR fs g k)∧BoxAt wr g4 0∧But [] w wr)) (fun iv _ => n - (intOf iv).toNat)
 case atStart => exact ⟨0,Nat.zero_le _,rfl,unhide X5,unhide X4,unhide BW⟩
 case round =>
  obtain ⟨k,hk,rfl,HI⟩:=hrel
  rename World => wr
  clear X4 X5 BW
  by_cases hlt : k < n
  ·have hkl : k < fs.length:=by have:=unhide HN; omega
   have hfx:=(unhide HV).but (unhide HI).2.2
   rcases hfx.open with ⟨er,-⟩ | ⟨-,rb,roff,rcap2,er,-,-⟩
   ·rw [er] at hkl
    simp at hkl
   simp only [Value.slice.injEq] at er
   obtain ⟨rfl,-,rfl⟩:=er
   obtain ⟨sr,xr,yr,pr,⟨r0,r1,r2,r3⟩,hfr⟩:=hfx.get k hlt
   obtain ⟨f,hff⟩ : ∃ f,f = fs[k]?.getD 0:=⟨_,rfl⟩
   rw [← hff] at hfr
   have hmem : f ∈ fs:=by rw [hff,List.getElem?_eq_getElem hkl]; exact List.getElem_mem hkl
   have HFR:=hide hfr
   have HFF:=hide hff
   clear hfx hfr hff
   go_wp2
   have bA : But [] wr (wr.alloc (.cells #[.bool sr,.int .u64 xr,.int .u64 yr,.pointer pr] 29)):=(But.refl _ _).alloc _
   have x7:=BoxAt.new wr sr xr yr pr _ 29 (unhide HFR)
   have D5:=hide ((unhide HI).1.but bA)
   have D4:=hide ((unhide HI).2.1.but bA)
   have DB:=hide ((unhide HI).2.2.trans' bA)
   have X7:=hide x7
   clear bA x7 HFR r0 r1 r2 r3 HI
   generalize wr.heap.size = g7 at *
   generalize wr.alloc (.cells #[.bool sr,.int .u64 xr,.int .u64 yr,.pointer pr] 29) = U at *
   obtain ⟨⟨t5,a5,b5,q5,c5,hf5⟩,z5⟩:=unhide D5
   obtain ⟨⟨t7,a7,b7,q7,c7,hf7⟩,-⟩:=unhide X7
   obtain ⟨hg0,hg1⟩:=unhide HG k hkl
   obtain ⟨ws,wx,FW,CW⟩:=whole_is (g k) (by omega) (by omega)
   have lint : Len ((g k : Int) : Rat) 1:=len_int (g k) (by omega)
   have lm:=len_meanR c fs g lf (fun j hj => by have:=unhide HG j hj; omega) k (by omega)
   have hkc : k * (c + 2) ≤ 1000 * 102:=Nat.mul_le_mul (by omega) (by omega)
   refine mean_region 5 _ _ U t5 a5 b5 q5 t7 a7 b7 q7 fo fe (k : Int) (g k) ws wx _ _ g5 g7 (by simp) (by simp [Act.eval]) c5 z5 (by simp [Act.eval]) (by simp [Act.eval]) (by simp [Act.eval]) c5 c7 (unhide HEN) (fun w' hb => unhide HOF k hkl w' ((unhide DB).trans' hb)) CW (fun w' hb => fracMul_any _ _ _ _ w' (hf7.but hb) (FW w') ((lf f hmem).mono (by omega)) (lint.mono (by omega))) (fun w' hb v' hv' => fracAdd_gen 200000 200000 (by omega) _ _ _ _ w' (hf5.but hb) hv' (lm.mono (by omega)) (len_mul (lf f hmem) lint 200000 (by omega))) ?_
   intro w7 v6' s7 x7 y7 p7 hb7 hfz
   simp only [putted,List.foldl_cons,List.foldl_nil,Act.put,List.setIfInBounds_toArray,List.set_cons_zero,List.set_cons_succ]
   have ez : meanR fs g k + f * ((g k : Int) : Rat) = meanR fs g (k + 1):=by rw [unhide HFF]; rfl
   rw [ez] at hfz
   have hP:=put4_but w7 g5 s7 x7 y7 p7
   have J5:=hide (((unhide D5).but hb7).put hfz)
   have J4:=hide (((unhide D4).but hb7).beside hP (by simp; omega) (fun g hg => by simp at hg; subst hg; exact ((unhide D5).but hb7).bool))
   have JB:=hide (((unhide DB).trans' hb7).trans hP (fun x hx => by simp at hx; subst hx; exact .inr (by omega)))
   generalize put4 w7 g5 s7 x7 y7 p7 = V7 at *
   clear hP hfz hb7 D5 D4 DB X7 c5 c7 hf5 hf7 z5 ez lm lint hkc
   go_wp2
   exact ⟨⟨k + 1,by omega,by go_num,unhide J5,unhide J4,unhide JB⟩,by simp [intOf]; omega⟩
  ·obtain rfl : k = n:=by omega
   obtain ⟨⟨⟨t6,a6,b6,q6',⟨d0,d1,d2,d3⟩,hf6⟩,z6⟩,⟨⟨t2,a2,b2,q2,⟨c0,c1,c2,c3⟩,-⟩,z2⟩,hbw⟩:=unhide HI
   have HF6:=hide hf6
   have HBW:=hide hbw
   have P2 : Hid (P4 wr g4 t2 a2 b2 q2):=⟨c0,c1,c2,c3⟩
   clear HI hf6 hbw
   go_wp2
   have hP:=put4_but wr g4 t6 a6 b6 q6'
   obtain ⟨m0,m1,m2,m3⟩:=put4_p4 wr g4 t6 a6 b6 q6' (unhide P2)
   have hF : But [] w (put4 wr g4 t6 a6 b6 q6'):=(unhide HBW).trans hP (fun x hx => by simp at hx; subst hx; exact .inr (by omega))
   have hff:=(unhide HF6).over (unhide P2).1 hP
   change bodyPost _ _ _ _ _ (put4 wr g4 t6 a6 b6 q6')
   generalize put4 wr g4 t6 a6 b6 q6' = F at *
   exact bodyPost_ret (v:=.agg #[.bool t6,.int .u64 a6,.int .u64 b6,.pointer q6']) (by simp [results,Tryz.results45,go_sem,m0,m1,m2,m3]) rfl ⟨_,_,_,_,rfl,hff,hF⟩
theorem checkSize_any (n : Int) (w : World) : Calls Tryz.prog 30 #[.int .i64 n] w fun e w' => e = .returned (if n < 0 ∨ 200 < n then .iface 54 (.int .i64 2) else .nilIface)∧w' = w:=by
 go_enter Tryz.func30,Tryz.ntmps30
 by_cases h0 : n < 0
 ·go_wp2
  go_ret
  exact ⟨rfl,rfl⟩
 ·by_cases h1 : 200 < n
  ·go_wp2
   go_ret
   exact ⟨rfl,rfl⟩
  ·go_wp2
   go_ret
   exact ⟨rfl,rfl⟩
theorem amount_any (k : Int) (w : World) : Calls Tryz.prog 46 #[.int .i64 k] w fun e w' => e = .returned (.int .i64 k)∧w' = w:=by
 go_enter Tryz.func46,Tryz.ntmps46
 go_wp2
 go_ret
 exact ⟨rfl,rfl⟩
theorem beyond_any (g : Nat) (a k : Int) (w : World) (hc : w.cell? ⟨g,0,none⟩ = some (.int .i64 a)) (ha : 0 ≤ a∧a < 4294967296) (hk : 0 ≤ k∧k < 4294967296) : Calls Tryz.prog 48 #[.int .i64 k,.pointer (some ⟨g,0,none⟩)] w fun e w' => e = .returned (.int .i64 (max (k - a) 0))∧w' = w:=by
 obtain ⟨h1,h2⟩:=ha
 obtain ⟨h3,h4⟩:=hk
 go_enter Tryz.func48,Tryz.ntmps48
 go_wp2
 go_ret
 exact ⟨rfl,rfl⟩
theorem within_any (g g' : Nat) (a b k : Int) (w : World) (hc : w.cell? ⟨g,0,none⟩ = some (.int .i64 a)) (hd : w.cell? ⟨g',0,none⟩ = some (.int .i64 b)) (ha : 0 ≤ a∧a < 4294967296) (hb : 0 ≤ b∧b < 4294967296) (hk : 0 ≤ k∧k < 4294967296) : Calls Tryz.prog 47 #[.int .i64 k,.pointer (some ⟨g,0,none⟩),.pointer (some ⟨g',0,none⟩)] w fun e w' => e = .returned (.int .i64 (min (max (k - a) 0) b))∧w' = w:=by
 obtain ⟨h1,h2⟩:=ha
 obtain ⟨h3,h4⟩:=hk
 obtain ⟨h5,h6⟩:=hb
 go_enter Tryz.func47,Tryz.ntmps47
 go_wp2
 go_ret
 exact ⟨rfl,rfl⟩
theorem enters_amount : ∀ args W,(callFunc 46 args).run Tryz.prog W = .ok (.enter 46 args) W:=enters_of Tryz.func46 (by kernel_rfl) rfl
theorem enters_beyond : ∀ args W,(callFunc 48 args).run Tryz.prog W = .ok (.enter 48 args) W:=enters_of Tryz.func48 (by kernel_rfl) rfl
theorem enters_within : ∀ args W,(callFunc 47 args).run Tryz.prog W = .ok (.enter 47 args) W:=enters_of Tryz.func47 (by kernel_rfl) rfl
end Go.Proofs.YtikgmhpbdcdogaaGreatDoor

namespace Go.Proofs.YtikgmhpbdcdogaaGreatDoor
open Go.RowKit

/-- a fraction and no error where there is none, nought and the error else -/
def MeanIs (w : World) (e : Ending) (q : Int) (m : Rat) : Prop:=(q ≠ 0∧e = .returned (.tuple #[.agg #[.bool false,.int .u64 0,.int .u64 0,.pointer none],.iface 54 (.int .i64 q)])) ∨ (q = 0∧∃ s x y p,e = .returned (.tuple #[.agg #[.bool s,.int .u64 x,.int .u64 y,.pointer p],.nilIface])∧FracAt w (.agg #[.bool s,.int .u64 x,.int .u64 y,.pointer p]) m)

set_option maxHeartbeats 16000000 in
set_option maxRecDepth 100000 in
theorem lawMean_any (v : Value) (fs : List Rat) (c : Nat) (w : World) (hv : FracsAt w v fs) (hn : fs.length ≤ 1000) (lf : ∀ f ∈ fs,Len f c) (hc : c ≤ 100) :
  Calls Tryz.prog 14 #[v] w fun e w' => MeanIs w' e (chkE fs) (meanR fs (fun k => (k : Int)) fs.length)∧But [] w w':=by
 have CH:=hide (fun W (h : But [] w W) => lawCheck_any v fs c W (hv.but h) hn lf hc)
 have ME:=hide (fun W (h : But [] w W) => mean_any v fs c 46 #[] (fun k => (k : Int)) W (hv.but h) hn lf hc (fun k hk => ⟨by omega,by omega⟩) enters_amount (fun k _ W _ => (amount_any k W).mono (fun e w' h => ⟨h.1,by rw [h.2]; exact But.refl _ _⟩)))
 obtain ⟨q,cap,rfl,hcap,-⟩:=id hv
 generalize hq : chkE fs = ce at *
 clear hq hv
 have x2:=BoxAt.new w false 0 0 none 0 29 (zero_at _)
 have bA : But [] w (w.alloc (.cells #[.bool false,.int .u64 0,.int .u64 0,.pointer none] 29)):=(But.refl _ _).alloc _
 have X2:=hide x2
 have BA:=hide bA
 clear x2 bA
 have Q2 : Hid (w.heap.size ≤ w.heap.size):=Nat.le_refl _
 go_enter Tryz.func14,Tryz.ntmps14
 go_wp2_with fail
 refine (unhide CH _ (unhide BA)).mono ?_
 rintro e w1 ⟨rfl,hb1⟩
 have B1:=hide ((unhide BA).trans' hb1)
 have X21:=hide ((unhide X2).but hb1)
 clear hb1 CH X2 BA
 generalize hg2 : w.heap.size = g2 at *
 obtain ⟨⟨t2,a2,b2,q2,⟨c0,c1,c2,c3⟩,-⟩,z2⟩:=unhide X21
 unfold errV
 by_cases h0 : ce = 0
 ·subst h0
  rw [if_pos rfl]
  go_wp2_with fail
  refine (unhide ME _ (unhide B1)).mono ?_
  rintro e w2 ⟨s,x,y,p,rfl,hf,hb2⟩
  have l2 : g2 < w1.heap.size:=lt_of_cell c0
  have z2' : ∀ j,w2.frozen? ⟨g2,j,none⟩ = false:=fun j => (hb2.frozen (p:=⟨g2,j,none⟩) l2 (by simp)).trans (z2 j)
  replace c0:=hb2.cell_some c0 (by simp)
  replace c1:=hb2.cell_some c1 (by simp)
  replace c2:=hb2.cell_some c2 (by simp)
  replace c3:=hb2.cell_some c3 (by simp)
  have B2:=hide ((unhide B1).trans' hb2)
  have HF:=hide hf
  have P2 : Hid (P4 w2 g2 t2 a2 b2 q2):=⟨c0,c1,c2,c3⟩
  clear hb2 hf ME z2 B1
  go_wp2
  have hP:=put4_but w2 g2 s x y p
  obtain ⟨m0,m1,m2,m3⟩:=put4_p4 w2 g2 s x y p (unhide P2)
  have hF : But [] w (put4 w2 g2 s x y p):=(unhide B2).trans hP (fun x hx => by simp at hx; subst hx; exact .inr (by omega))
  have hff:=(unhide HF).over (unhide P2).1 hP
  change bodyPost _ _ _ _ _ (put4 w2 g2 s x y p)
  generalize put4 w2 g2 s x y p = F at *
  exact bodyPost_ret (v:=.tuple #[.agg #[.bool s,.int .u64 x,.int .u64 y,.pointer p],.nilIface]) (by simp [results,Tryz.results14,go_sem,m0,m1,m2,m3]) rfl ⟨.inr ⟨rfl,_,_,_,_,rfl,hff⟩,hF⟩
 ·rw [if_neg h0]
  have P2 : Hid (P4 w1 g2 t2 a2 b2 q2):=⟨c0,c1,c2,c3⟩
  go_wp2
  have hP:=put4_but w1 g2 false 0 0 none
  obtain ⟨m0,m1,m2,m3⟩:=put4_p4 w1 g2 false 0 0 none (unhide P2)
  have hF : But [] w (put4 w1 g2 false 0 0 none):=(unhide B1).trans hP (fun x hx => by simp at hx; subst hx; exact .inr (by omega))
  change bodyPost _ _ _ _ _ (put4 w1 g2 false 0 0 none)
  generalize put4 w1 g2 false 0 0 none = F at *
  exact bodyPost_ret (v:=.tuple #[.agg #[.bool false,.int .u64 0,.int .u64 0,.pointer none],.iface 54 (.int .i64 ce)]) (by simp [results,Tryz.results14,go_sem,m0,m1,m2,m3]) rfl ⟨.inl ⟨h0,rfl⟩,hF⟩
end Go.Proofs.YtikgmhpbdcdogaaGreatDoor

namespace Go.Proofs.YtikgmhpbdcdogaaGreatDoor
open Go.RowKit

def stopE (fs : List Rat) (a : Int) : Int:=if chkE fs ≠ 0 then chkE fs else if a < 0 ∨ 200 < a then 2 else 0
set_option maxHeartbeats 16000000 in
set_option maxRecDepth 100000 in
theorem lawStop_any (v : Value) (fs : List Rat) (c : Nat) (a : Int) (w : World) (hv : FracsAt w v fs) (hn : fs.length ≤ 1000) (lf : ∀ f ∈ fs,Len f c) (hc : c ≤ 100) :
  Calls Tryz.prog 17 #[v,.int .i64 a] w fun e w' => MeanIs w' e (stopE fs a) (meanR fs (fun k => max ((k : Int) - a) 0) fs.length)∧But [] w w':=by
 have CH:=hide (fun W (h : But [] w W) => lawCheck_any v fs c W (hv.but h) hn lf hc)
 have CS:=hide (checkSize_any a)
 have ME : Hid (∀ g W,0 ≤ a∧a ≤ 200→But [] w W→W.cell? ⟨g,0,none⟩ = some (.int .i64 a)→Calls Tryz.prog 45 #[v,.func (.func 48) #[] #[.pointer (some ⟨g,0,none⟩)]] W fun e w' => ∃ s x y p,e = .returned (.agg #[.bool s,.int .u64 x,.int .u64 y,.pointer p])∧FracAt w' (.agg #[.bool s,.int .u64 x,.int .u64 y,.pointer p]) (meanR fs (fun k => max ((k : Int) - a) 0) fs.length)∧But [] W w') :=
  fun g W ha hb hg => mean_any v fs c 48 _ (fun k => max ((k : Int) - a) 0) W (hv.but hb) hn lf hc (fun k hk => ⟨by show 0 ≤ max _ _; omega,by show max _ _ < _; omega⟩) enters_beyond (fun k hk W' hb' => (beyond_any g a k W' (hb'.cell_some hg (by simp)) ⟨by omega,by omega⟩ ⟨by omega,by omega⟩).mono (fun e w' h => ⟨h.1,by rw [h.2]; exact But.refl _ _⟩))
 obtain ⟨se,hse⟩ : ∃ se,se = stopE fs a:=⟨_,rfl⟩
 rw [← hse]
 unfold stopE at hse
 obtain ⟨q,cap,rfl,hcap,-⟩:=id hv
 generalize hq : chkE fs = ce at *
 have HSE:=hide hse
 clear hq hv hse
 obtain ⟨W,hW⟩ : ∃ W,W = (w.alloc (.cells #[.int .i64 a] 3)).alloc (.cells #[.bool false,.int .u64 0,.int .u64 0,.pointer none] 29):=⟨_,rfl⟩
 have x4 : BoxAt W (w.heap.size + 1) 0:=by
  rw [hW]
  have h:=BoxAt.new (w.alloc (.cells #[.int .i64 a] 3)) false 0 0 none 0 29 (zero_at _)
  rw [show (w.alloc (.cells #[.int .i64 a] 3)).heap.size = w.heap.size + 1 from by simp] at h
  exact h
 have c3 : W.cell? ⟨w.heap.size,0,none⟩ = some (.int .i64 a):=by rw [hW]; exact ((But.refl [] _).alloc _).cell_some (by simp) (by simp)
 have bW : But [] w W:=by rw [hW]; exact ((But.refl _ _).alloc _).alloc _
 have X4:=hide x4
 have BW:=hide bW
 clear x4 bW
 go_enter Tryz.func17,Tryz.ntmps17
 go_wp2_with fail
 rw [← hW]
 clear hW
 refine (unhide CH _ (unhide BW)).mono ?_
 rintro e w1 ⟨rfl,hb1⟩
 have B1:=hide ((unhide BW).trans' hb1)
 have X41:=hide ((unhide X4).but hb1)
 replace c3:=hb1.cell_some c3 (by simp)
 clear hb1 CH X4 BW
 have o4 : w.heap.size ≤ w.heap.size + 1:=by omega
 generalize hg4 : w.heap.size + 1 = g4 at *
 generalize hg3 : w.heap.size = g3 at *
 obtain ⟨⟨t2,a2,b2,q2,⟨d0,d1,d2,d3⟩,-⟩,z2⟩:=unhide X41
 have P2 : Hid (P4 w1 g4 t2 a2 b2 q2):=⟨d0,d1,d2,d3⟩
 have hmf : ∀ (fn : Fn) (first cap : Array Value) (w : World),(Instr.makeFunc fn first cap).run Tryz.prog w = .ok (.func fn first cap) w:=fun _ _ _ _ => rfl
 unfold errV
 by_cases h0 : ce = 0
 ·subst h0
  rw [if_pos rfl]
  by_cases ha : a < 0 ∨ 200 < a
  ·rw [if_pos ha] at CS
   obtain rfl : se = 2:=by rw [unhide HSE,if_neg (by simp),if_pos ha]
   go_wp2_with fail
   refine (unhide CS _).mono ?_
   rintro e w1' ⟨rfl,hw⟩
   obtain rfl:=hw.symm
   clear hw
   clear CS
   go_wp2
   have hP:=put4_but w1 g4 false 0 0 none
   obtain ⟨m0,m1,m2,m3⟩:=put4_p4 w1 g4 false 0 0 none (unhide P2)
   have hF : But [] w (put4 w1 g4 false 0 0 none):=(unhide B1).trans hP (fun x hx => by simp at hx; subst hx; exact .inr (by omega))
   change bodyPost _ _ _ _ _ (put4 w1 g4 false 0 0 none)
   generalize put4 w1 g4 false 0 0 none = F at *
   exact bodyPost_ret (v:=.tuple #[.agg #[.bool false,.int .u64 0,.int .u64 0,.pointer none],.iface 54 (.int .i64 2)]) (by simp [results,Tryz.results17,go_sem,m0,m1,m2,m3]) rfl ⟨.inl ⟨by decide,rfl⟩,hF⟩
  ·rw [if_neg ha] at CS
   obtain rfl : se = 0:=by rw [unhide HSE,if_neg (by simp),if_neg ha]
   go_wp2_with fail
   refine (unhide CS _).mono ?_
   rintro e w1' ⟨rfl,hw⟩
   obtain rfl:=hw.symm
   clear hw
   have ME':=hide (unhide ME g3 w1 (by omega) (unhide B1) c3)
   clear CS ME
   go_wp2_with fail
   refine (unhide ME').mono ?_
   rintro e w2 ⟨s,x,y,p,rfl,hf,hb2⟩
   have l2 : g4 < w1.heap.size:=lt_of_cell d0
   have z2' : ∀ j,w2.frozen? ⟨g4,j,none⟩ = false:=fun j => (hb2.frozen (p:=⟨g4,j,none⟩) l2 (by simp)).trans (z2 j)
   replace d0:=hb2.cell_some d0 (by simp)
   replace d1:=hb2.cell_some d1 (by simp)
   replace d2:=hb2.cell_some d2 (by simp)
   replace d3:=hb2.cell_some d3 (by simp)
   have B2:=hide ((unhide B1).trans' hb2)
   have HF:=hide hf
   have P3:=hide ((unhide P2).but hb2 (by simp))
   clear hb2 hf ME' z2 B1
   go_wp2
   have hP:=put4_but w2 g4 s x y p
   obtain ⟨m0,m1,m2,m3⟩:=put4_p4 w2 g4 s x y p (unhide P3)
   have hF : But [] w (put4 w2 g4 s x y p):=(unhide B2).trans hP (fun x hx => by simp at hx; subst hx; exact .inr (by omega))
   have hff:=(unhide HF).over (unhide P3).1 hP
   change bodyPost _ _ _ _ _ (put4 w2 g4 s x y p)
   generalize put4 w2 g4 s x y p = F at *
   exact bodyPost_ret (v:=.tuple #[.agg #[.bool s,.int .u64 x,.int .u64 y,.pointer p],.nilIface]) (by simp [results,Tryz.results17,go_sem,m0,m1,m2,m3]) rfl ⟨.inr ⟨rfl,_,_,_,_,rfl,hff⟩,hF⟩
 ·rw [if_neg h0]
  obtain rfl : se = ce:=by rw [unhide HSE,if_pos h0]
  go_wp2
  have hP:=put4_but w1 g4 false 0 0 none
  obtain ⟨m0,m1,m2,m3⟩:=put4_p4 w1 g4 false 0 0 none (unhide P2)
  have hF : But [] w (put4 w1 g4 false 0 0 none):=(unhide B1).trans hP (fun x hx => by simp at hx; subst hx; exact .inr (by omega))
  change bodyPost _ _ _ _ _ (put4 w1 g4 false 0 0 none)
  generalize put4 w1 g4 false 0 0 none = F at *
  exact bodyPost_ret (v:=.tuple #[.agg #[.bool false,.int .u64 0,.int .u64 0,.pointer none],.iface 54 (.int .i64 se)]) (by simp [results,Tryz.results17,go_sem,m0,m1,m2,m3]) rfl ⟨.inl ⟨h0,rfl⟩,hF⟩

set_option maxHeartbeats 8000000 in
set_option maxRecDepth 100000 in
theorem greatest_any (v : Value) (fs : List Rat) (m : Nat) (w : World) (hv : FracsAt w v fs) (hn : fs.length ≤ 1000) (hm : m < fs.length) (h1 : (fs[m]?.getD 0).num ≠ 0) (h2 : ∀ j,m < j→j < fs.length→(fs[j]?.getD 0).num = 0) :
  Calls Tryz.prog 34 #[v] w fun e w' => e = .returned (.int .i64 (m : Int))∧But [] w w':=by
 rcases hv.open with ⟨rfl,-⟩ | ⟨-,b,off,cap,rfl,-,-⟩
 ·simp at hm
 obtain ⟨n,hN⟩ : ∃ n,n = fs.length:=⟨_,rfl⟩
 rw [← hN] at hn hm h2 ⊢
 rw [← hN] at hv
 have HV:=hide hv
 have H1:=hide h1
 have H2:=hide h2
 clear hv h1 h2 hN
 have hn1 : ((n : Int) - 1) = ((n - 1 : Nat) : Int):=by omega
 go_enter Tryz.func34,Tryz.ntmps34
 go_wp2
 go_loopw [3] (fun iv wr => ∃ k : Nat,m ≤ k∧k < n∧iv = .int .i64 (k : Int)∧Hid (But [] w wr)) (fun iv _ => (intOf iv).toNat)
 case atStart => exact ⟨n - 1,by omega,by omega,by first | rfl | rw [hn1],But.refl _ _⟩
 case round =>
  obtain ⟨k,hmk,hkn,rfl,HI⟩:=hrel
  rename World => wr
  obtain ⟨sr,xr,yr,pr,⟨r0,r1,r2,r3⟩,hfr⟩:=((unhide HV).but (unhide HI)).get k hkn
  have SG:=hide (fracSign_any _ _ wr hfr)
  clear hfr
  by_cases hk : k = m
  ·subst hk
   have hs : (fs[k]?.getD 0).num.sign ≠ 0:=fun e => unhide H1 (Int.sign_eq_zero_iff_zero.1 e)
   generalize (fs[k]?.getD 0).num.sign = sg at *
   go_wp2_with fail
   refine (unhide SG).mono ?_
   rintro e w1 ⟨rfl,hb1⟩
   have B1:=hide ((unhide HI).trans' hb1)
   clear hb1
   go_wp2
   go_ret
   exact ⟨rfl,unhide B1⟩
  ·rw [unhide H2 k (by omega) hkn,Int.sign_zero] at SG
   go_wp2_with fail
   refine (unhide SG).mono ?_
   rintro e w1 ⟨rfl,hb1⟩
   have B1:=hide ((unhide HI).trans' hb1)
   clear hb1
   have hk1 : ((k : Int) - 1) = ((k - 1 : Nat) : Int):=by omega
   go_wp2
   exact ⟨⟨k - 1,by omega,by omega,by first | rfl | rw [hk1],unhide B1⟩,by simp [intOf]; omega⟩
end Go.Proofs.YtikgmhpbdcdogaaGreatDoor
