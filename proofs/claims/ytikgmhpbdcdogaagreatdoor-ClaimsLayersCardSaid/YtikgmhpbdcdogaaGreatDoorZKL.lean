/- What a layer bears, as the Go text of package claims finds it, where the law may be. -/
import Derived.Test.YtikgmhpbdcdogaaGreatDoorZK1
namespace Go.Proofs.YtikgmhpbdcdogaaGreatDoor
open Go.RowKit

def wi (a b i : Nat) : Nat:=min (i - a) b
def layF (fs : List Rat) (a b : Nat) : Nat→Nat→Rat
 | 0 => fun _ => 0
 | i + 1 => setF (layF fs a b i) (wi a b i) (layF fs a b i (wi a b i) + fs[i]?.getD 0)
theorem len_layF (c : Nat) (fs : List Rat) (a b : Nat) (h : ∀ f ∈ fs,Len f c) : ∀ i,i ≤ fs.length→∀ t,Len (layF fs a b i t) (i * (c + 1) + 1)
 | 0,_,_ => len_zero _ (by omega)
 | i + 1,hi,t => by
  have ih:=len_layF c fs a b h i (by omega)
  have e:=Nat.add_mul i 1 (c + 1)
  show Len (setF _ _ _ t) _
  unfold setF
  split
  ·rw [List.getElem?_eq_getElem (by omega)]
   exact len_add (ih _) (h _ (List.getElem_mem (by omega))) _ (by omega)
  ·exact (ih t).mono (by omega)
theorem run_makeL (wx : World) (n : Nat) (h : n < 1000000) : (Instr.makeSlice 38 (.int .i64 (n : Int)) (.int .i64 (n : Int))).run Tryz.prog wx = .ok (.slice (some ⟨wx.heap.size,0,none⟩) n n) (wx.alloc (.cells (madeCells #[.bool false,.int .u64 0,.int .u64 0,.pointer none] (n * 4)) 29)):=by
 obtain ⟨ti,hi,hz,hs,hbt⟩:=info_frac
 have hmk:=run_make (P:=Tryz.prog) wx 38 29 ti _ Tryz.underlying38 hi hz .i64 .i64 (n : Int) (n : Int) (by omega) (by omega) (by rw [hbt]; omega) (by omega)
 rw [hs,Int.toNat_natCast] at hmk
 exact hmk
set_option maxHeartbeats 16000000 in
set_option maxRecDepth 100000 in
theorem lawLayer_ok (bb off cap l : Nat) (fs : List Rat) (m a b c : Nat) (w : World) (hv : FracsAt w (.slice (some ⟨bb,off,none⟩) l cap) fs) (hN : l = fs.length) (hcap : l ≤ cap) (hln : fs.length ≤ 201) (hm : m < fs.length) (h1 : (fs[m]?.getD 0).num ≠ 0) (h2 : ∀ j,m < j→j < fs.length→(fs[j]?.getD 0).num = 0)
  (hck : chkE fs = 0) (ha : a ≤ 200) (hb : b ≤ 200) (lf : ∀ f ∈ fs,Len f c) (hc : c ≤ 100) :
  Calls Tryz.prog 16 #[.slice (some ⟨bb,off,none⟩) l cap,.int .i64 (a : Int),.int .i64 (b : Int)] w fun e w' => ∃ g,e = .returned (.tuple #[.slice (some ⟨g,0,none⟩) (wi a b m + 1) (wi a b m + 1),.nilIface])∧RowOf w' g (wi a b m + 1) (layF fs a b (m + 1))∧But [] w w':=by
 have CH:=hide (fun W (h : But [] w W) => lawCheck_any _ fs c W (hv.but h) (by omega) lf hc)
 rw [hck] at CH
 have GR:=hide (fun W (h : But [] w W) => greatest_any _ fs m W (hv.but h) (by omega) hm h1 h2)
 have SH:=hide (fun W (h : But [] w W) => short_any bb off cap l fs m W (hv.but h) hN hcap (by omega) hm h1 h2)
 have CS1:=hide (checkSize_any (a : Int))
 have CS2:=hide (checkSize_any (b : Int))
 rw [if_neg (by omega)] at CS1 CS2
 have WI : Hid (∀ (g g' : Nat) (W : World) (k : Nat),k ≤ 201→W.cell? ⟨g,0,none⟩ = some (.int .i64 (a : Int))→W.cell? ⟨g',0,none⟩ = some (.int .i64 (b : Int))→Calls Tryz.prog 47 #[.int .i64 (k : Int),.pointer (some ⟨g,0,none⟩),.pointer (some ⟨g',0,none⟩)] W fun e w' => e = .returned (.int .i64 ((wi a b k : Nat) : Int))∧w' = W):=fun g g' W k hk e1 e2 => by
  have h:=within_any g g' (a : Int) (b : Int) (k : Int) W e1 e2 ⟨by omega,by omega⟩ ⟨by omega,by omega⟩ ⟨by omega,by omega⟩
  have e : ((wi a b k : Nat) : Int) = min (max ((k : Int) - (a : Int)) 0) (b : Int):=by unfold wi; omega
  rw [e]
  exact h
 have HV:=hide hv
 obtain ⟨t,ht⟩ : ∃ t,t = wi a b m + 1:=⟨_,rfl⟩
 have ht1 : ((wi a b m : Nat) : Int) + 1 = (t : Int):=by omega
 have ht2 : t < 1000000:=by rw [ht]; unfold wi; omega
 have HT:=hide ht
 rw [← ht]
 clear ht
 have hmk:=fun wx => run_makeL wx t ht2
 have hmf : ∀ (fn : Fn) (first cap : Array Value) (w : World),(Instr.makeFunc fn first cap).run Tryz.prog w = .ok (.func fn first cap) w:=fun _ _ _ _ => rfl
 have HLL:=hide hN
 clear hv h1 h2 hck hN
 obtain ⟨W,hW⟩ : ∃ W,W = (w.alloc (.cells #[.int .i64 (a : Int)] 3)).alloc (.cells #[.int .i64 (b : Int)] 3):=⟨_,rfl⟩
 have c4 : W.cell? ⟨w.heap.size,0,none⟩ = some (.int .i64 (a : Int)):=by rw [hW]; exact ((But.refl [] _).alloc _).cell_some (by simp) (by simp)
 have c5 : W.cell? ⟨w.heap.size + 1,0,none⟩ = some (.int .i64 (b : Int)):=by
  rw [hW]
  have z : (w.alloc (.cells #[.int .i64 (a : Int)] 3)).heap.size = w.heap.size + 1:=by simp
  rw [← z]; simp
 have bW : But [] w W:=by rw [hW]; exact ((But.refl _ _).alloc _).alloc _
 have BW:=hide bW
 clear bW
 go_enter Tryz.func16,Tryz.ntmps16
 go_wp2_with fail
 rw [← hW]
 clear hW
 refine (unhide CH _ (unhide BW)).mono ?_
 rintro e w1 ⟨rfl,hb1⟩
 have B1:=hide ((unhide BW).trans' hb1)
 replace c4:=hb1.cell_some c4 (by simp)
 replace c5:=hb1.cell_some c5 (by simp)
 clear hb1 CH BW
 generalize hg5 : w.heap.size + 1 = g5 at *
 generalize hg4 : w.heap.size = g4 at *
 rw [show errV 0 = .nilIface from rfl]
 go_wp2_with fail
 refine (unhide CS1 _).mono ?_
 rintro e w1' ⟨rfl,hw⟩
 obtain rfl:=hw.symm
 clear hw CS1
 go_wp2_with fail
 refine (unhide CS2 _).mono ?_
 rintro e w1' ⟨rfl,hw⟩
 obtain rfl:=hw.symm
 clear hw CS2
 go_wp2_with fail
 refine (unhide GR _ (unhide B1)).mono ?_
 rintro e w2 ⟨rfl,hb2⟩
 have B2:=hide ((unhide B1).trans' hb2)
 replace c4:=hb2.cell_some c4 (by simp)
 replace c5:=hb2.cell_some c5 (by simp)
 clear hb2 GR B1
 have WM:=hide (unhide WI g4 g5 w2 m (by omega) c4 c5)
 go_wp2_with fail
 refine (unhide WM).mono ?_
 rintro e w2' ⟨rfl,hw⟩
 obtain rfl:=hw.symm
 clear hw WM
 go_wp2_with fail
 have rV:=RowOf.made w2 t
 have bV : But [] w2 (w2.alloc (.cells (madeCells #[.bool false,.int .u64 0,.int .u64 0,.pointer none] (t * 4)) 29)):=(But.refl _ _).alloc _
 have lV : w2.heap.size < (w2.alloc (.cells (madeCells #[.bool false,.int .u64 0,.int .u64 0,.pointer none] (t * 4)) 29)).heap.size:=by simp
 have BV:=hide ((unhide B2).trans' bV)
 have o5 : w.heap.size ≤ w2.heap.size:=(unhide B2).size
 have l5 : g5 < w2.heap.size:=lt_of_cell c5
 replace c4:=bV.cell_some c4 (by simp)
 replace c5:=bV.cell_some c5 (by simp)
 have RV:=hide rV
 clear rV bV B2 hmk
 generalize w2.heap.size = g at *
 generalize w2.alloc (.cells (madeCells #[.bool false,.int .u64 0,.int .u64 0,.pointer none] (t * 4)) 29) = V at *
 refine (unhide SH _ (unhide BV)).mono ?_
 rintro e w3 ⟨rfl,hfs,hb3⟩
 have B3:=hide ((unhide BV).trans' hb3)
 have R3:=hide ((unhide RV).but hb3 lV)
 have G3 : g < w3.heap.size:=Nat.lt_of_lt_of_le lV hb3.size
 replace c4:=hb3.cell_some c4 (by simp)
 replace c5:=hb3.cell_some c5 (by simp)
 have I45 : Hid (w3.cell? ⟨g4,0,none⟩ = some (.int .i64 (a : Int))∧w3.cell? ⟨g5,0,none⟩ = some (.int .i64 (b : Int))):=⟨c4,c5⟩
 clear hb3 hfs SH BV RV lV c4 c5
 go_wp2
 obtain ⟨n,hn⟩ : ∃ n,n = m + 1:=⟨_,rfl⟩
 have hnm : ((m : Int) + 1) = (n : Int):=by omega
 have HNM:=hide hn
 try rw [← hn]
 clear hn
 go_loopw [40] (fun iv wr => ∃ i : Nat,i ≤ n∧iv = .int .i64 (i : Int)∧Hid (RowOf wr g t (layF fs a b i)∧g < wr.heap.size∧But [] w wr∧wr.cell? ⟨g4,0,none⟩ = some (.int .i64 (a : Int))∧wr.cell? ⟨g5,0,none⟩ = some (.int .i64 (b : Int)))) (fun iv _ => n - (intOf iv).toNat)
 case atStart => exact ⟨0,Nat.zero_le _,rfl,unhide R3,G3,unhide B3,(unhide I45).1,(unhide I45).2⟩
 case round =>
  obtain ⟨i,hi,rfl,HI⟩:=hrel
  rename World => wr
  clear R3 G3 B3 I45
  by_cases hlt : i < n
  ·have him : i ≤ m:=by have:=unhide HNM; omega
   have hil : i < fs.length:=by omega
   have hwt : wi a b i < t:=by have:=unhide HT; unfold wi at *; omega
   obtain ⟨hrow,hg,hbw,d4,d5⟩:=unhide HI
   obtain ⟨sr,xr,yr,pr,⟨r0,r1,r2,r3⟩,hfr⟩:=((unhide HV).but hbw).get i (by have:=unhide HLL; omega)
   obtain ⟨f,hff⟩ : ∃ f,f = fs[i]?.getD 0:=⟨_,rfl⟩
   rw [← hff] at hfr
   have hmem : f ∈ fs:=by rw [hff,List.getElem?_eq_getElem hil]; exact List.getElem_mem hil
   have HFF:=hide hff
   have bA : But [] wr (wr.alloc (.cells #[.bool sr,.int .u64 xr,.int .u64 yr,.pointer pr] 29)):=(But.refl _ _).alloc _
   have X14:=hide (BoxAt.new wr sr xr yr pr _ 29 hfr)
   have DR:=hide (hrow.but bA hg)
   have DG : g < (wr.alloc (.cells #[.bool sr,.int .u64 xr,.int .u64 yr,.pointer pr] 29)).heap.size:=Nat.lt_of_lt_of_le hg bA.size
   have DW:=hide (hbw.trans' bA)
   have D45:=hide (And.intro (bA.cell_some d4 (by simp)) (bA.cell_some d5 (by simp)))
   clear hrow hbw bA hfr hff HI d4 d5
   go_wp2
   generalize wr.heap.size = g14 at *
   generalize wr.alloc (.cells #[.bool sr,.int .u64 xr,.int .u64 yr,.pointer pr] 29) = U at *
   obtain ⟨s0,x0,y0,p0,e0,hf0⟩:=(unhide DR).told (wi a b i) hwt
   obtain ⟨⟨t7,a7,c7,q7,e7,hf7⟩,-⟩:=unhide X14
   have lo : Len (layF fs a b i (wi a b i)) 400000:=by
    refine (len_layF c fs a b lf i (by omega) _).mono ?_
    have : i * (c + 1) ≤ 201 * 101:=Nat.mul_le_mul (by omega) (by omega)
    omega
   refine layer_region 15 _ _ U g (wi a b i * 4) t i (wi a b i) 47 #[.pointer (some ⟨g4,0,none⟩),.pointer (some ⟨g5,0,none⟩)] s0 x0 y0 p0 t7 a7 c7 q7 _ _ g14 (by simp) e0 (unhide DR).loose (by simp [Act.eval]) (by simp [Act.eval]) (by simp [Act.eval]) (by simp [Act.eval]) rfl hwt ht2 e0 e7 enters_within (fun w' hb' => (unhide WI g4 g5 w' i (by omega) (hb'.cell_some (unhide D45).1 (by simp)) (hb'.cell_some (unhide D45).2 (by simp))).mono (fun e w'' h => ⟨h.1,by rw [h.2]; exact But.refl _ _⟩)) (fun w' hb' => fracAdd_gen 400000 1000 (by omega) _ _ _ _ w' (hf0.but hb') (hf7.but hb') lo ((lf f hmem).mono (by omega))) ?_
   intro w7 s7 x7 y7 p7 hb7 hfz
   simp only [putted,List.foldl_cons,List.foldl_nil,Act.put,List.setIfInBounds_toArray,List.set_cons_zero,List.set_cons_succ]
   have hrow:=(unhide DR).but hb7 DG
   have J1:=hide (hrow.set hwt s7 x7 y7 p7 _ hfz)
   have hP:=but_setCells w7 g [.bool s7,.int .u64 x7,.int .u64 y7,.pointer p7] (wi a b i * 4)
   have JB:=hide (((unhide DW).trans' hb7).trans hP (fun x hx => by simp at hx; subst hx; exact .inr (by omega)))
   have JG : g < (w7.setCells g (wi a b i * 4) [.bool s7,.int .u64 x7,.int .u64 y7,.pointer p7]).heap.size:=Nat.lt_of_lt_of_le (Nat.lt_of_lt_of_le DG hb7.size) hP.size
   have J45:=hide (And.intro (hP.cell_some (hb7.cell_some (unhide D45).1 (by simp)) (by simp; omega)) (hP.cell_some (hb7.cell_some (unhide D45).2 (by simp)) (by simp; omega)))
   generalize w7.setCells g (wi a b i * 4) [.bool s7,.int .u64 x7,.int .u64 y7,.pointer p7] = V7 at *
   clear hP hfz hb7 DR DW X14 D45 e0 e7 hf0 hf7 lo hrow
   go_wp2
   refine ⟨⟨i + 1,by omega,by go_num,?_,JG,unhide JB,(unhide J45).1,(unhide J45).2⟩,by simp [intOf]; omega⟩
   show RowOf V7 g t (setF _ _ _)
   rw [← unhide HFF]
   exact unhide J1
  ·obtain rfl : i = n:=by omega
   go_wp2
   have hr:=(unhide HI).1
   rw [unhide HNM] at hr
   exact bodyPost_ret (v:=.tuple #[.slice (some ⟨g,0,none⟩) t t,.nilIface]) (by simp [results,Tryz.results16,go_sem]) rfl ⟨g,rfl,hr,(unhide HI).2.2.1⟩
end Go.Proofs.YtikgmhpbdcdogaaGreatDoor
