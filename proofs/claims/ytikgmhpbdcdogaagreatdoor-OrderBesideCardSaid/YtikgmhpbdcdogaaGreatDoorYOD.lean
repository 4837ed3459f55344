/- Rows of fractions in one list, and a law cloned, as the Go texts of packages rows and slices make them. -/
import Derived.Test.YtikgmhpbdcdogaaGreatDoorYL1
import Derived.Test.YtikgmhpbdcdogaaGreatDoorYOB
namespace Go.Proofs.YtikgmhpbdcdogaaGreatDoor
open Go.RowKit

theorem info_row : ∃ i,Tryz.prog.info? 33 = some i∧i.zero = some (.slice none 0 0)∧i.size = 1∧i.bytes = 24:=by
 have h : (Tryz.prog.info? 33).map (fun i => (i.zero,i.size,i.bytes)) = some (some (.slice none 0 0),1,24):=by kernel_rfl
 cases e : Tryz.prog.info? 33 with
 | none => rw [e] at h; simp at h
 | some i =>
  rw [e] at h
  simp only [Option.map_some,Option.some.injEq,Prod.mk.injEq] at h
  exact ⟨i,rfl,h.1,h.2.1,h.2.2⟩
theorem run_makeR (wx : World) (n : Nat) (h : n < 1000000) : (Instr.makeSlice 63 (.int .i64 (n : Int)) (.int .i64 (n : Int))).run Tryz.prog wx = .ok (.slice (some ⟨wx.heap.size,0,none⟩) n n) (wx.alloc (.cells (madeCells #[.slice none 0 0] n) 33)):=by
 obtain ⟨ti,hi,hz,hs,hbt⟩:=info_row
 have hmk:=run_make (P:=Tryz.prog) wx 63 33 ti _ Tryz.underlying63 hi hz .i64 .i64 (n : Int) (n : Int) (by omega) (by omega) (by rw [hbt]; omega) (by omega)
 rw [hs,Int.toNat_natCast,Nat.mul_one] at hmk
 exact hmk
theorem made_one (n o : Nat) (h : o < n) : (madeCells #[Value.slice none 0 0] n)[o]? = some (Value.slice none 0 0):=by
 unfold madeCells
 rw [Array.getElem?_map,Array.getElem?_eq_getElem (by simpa using h),Array.getElem_range,Option.map_some]
 simp [Nat.mod_one]
/-- rows that are pieces of one list -/
structure MatAt (w : World) (go ga n m : Nat) (F : Nat→Rat) : Prop where
 all : RowOf w ga (n * m) F
 rows : ∀ i,i < n→w.cell? ⟨go,i,none⟩ = some (.slice (some ⟨ga,i * m * 4,none⟩) m m)
set_option maxHeartbeats 16000000 in
set_option maxRecDepth 100000 in
theorem rowsNew_any (n m : Nat) (hn : n ≤ 300) (hm : m ≤ 300) (hm0 : 0 < m) (w : World) :
  Calls Tryz.prog 67 #[.int .i64 (n : Int),.int .i64 (m : Int)] w fun e w' => ∃ go ga,e = .returned (.slice (some ⟨go,0,none⟩) n n)∧MatAt w' go ga n m (fun _ => 0)∧w.heap.size ≤ ga∧ga < go∧go < w'.heap.size∧But [] w w':=by
 obtain ⟨nm,hnm⟩ : ∃ nm,nm = n * m:=⟨_,rfl⟩
 have hnml : nm ≤ 90000:=by rw [hnm]; exact Nat.mul_le_mul hn hm
 have hnmI : (n : Int) * (m : Int) = (nm : Int):=by rw [hnm,Int.natCast_mul]
 have hmk:=fun wx => run_makeF wx nm (by omega)
 have hmr:=fun wx => run_makeR wx n (by omega)
 have HNM:=hide hnm
 obtain ⟨W1,hW1⟩ : ∃ W1,W1 = w.alloc (.cells (madeCells #[.bool false,.int .u64 0,.int .u64 0,.pointer none] (nm * 4)) 29):=⟨_,rfl⟩
 obtain ⟨W2,hW2⟩ : ∃ W2,W2 = W1.alloc (.cells (madeCells #[.slice none 0 0] n) 33):=⟨_,rfl⟩
 have z1 : W1.heap.size = w.heap.size + 1:=by rw [hW1]; simp
 have b2 : But [] W1 W2:=by rw [hW2]; exact (But.refl _ _).alloc _
 have b1 : But [] w W2:=But.trans' (by rw [hW1]; exact (But.refl _ _).alloc _) b2
 have rA : (∀ j,j < nm→P4o W2 w.heap.size (j * 4) false 0 0 none)∧∀ o,W2.frozen? ⟨w.heap.size,o,none⟩ = false:=by
  have h:=Row4.made w nm (fun _ => 0)
  rw [← hW1] at h
  exact ⟨fun j hj => (h.blank j (Nat.zero_le _) hj).but b2 (by simp),fun o => (b2.frozen (p:=⟨w.heap.size,o,none⟩) (by show w.heap.size < _; omega) (by simp)).trans (h.loose o)⟩
 have cO : ∀ i,i < n→W2.cell? ⟨w.heap.size + 1,i,none⟩ = some (.slice none 0 0):=fun i hi => by
  rw [← z1,hW2,World.cell?_alloc_new]; exact made_one n i hi
 have fO : ∀ j,W2.frozen? ⟨w.heap.size + 1,j,none⟩ = false:=fun j => by rw [← z1,hW2]; simp
 have s2 : w.heap.size + 1 < W2.heap.size:=by rw [hW2]; simp; omega
 have RA:=hide rA
 have CO:=hide cO
 have FO:=hide fO
 have B1:=hide b1
 clear rA cO fO b1 b2 hnm
 go_enter Tryz.func67,Tryz.ntmps67
 go_wp2
 rw [← hW1,← hW2]
 clear hW1 hW2 z1 hmk hmr
 have oG : w.heap.size ≤ w.heap.size:=Nat.le_refl _
 generalize hgo : w.heap.size + 1 = go at *
 generalize hga : w.heap.size = ga at *
 have OG : Hid (w.heap.size ≤ ga∧ga < go):=⟨by omega,by omega⟩
 go_loopw [18] (fun iv wr => ∃ k : Nat,k ≤ n∧iv = .int .i64 (k : Int)∧Hid (((∀ j,j < nm→P4o wr ga (j * 4) false 0 0 none)∧∀ o,wr.frozen? ⟨ga,o,none⟩ = false)∧(∀ i,i < k→wr.cell? ⟨go,i,none⟩ = some (.slice (some ⟨ga,i * m * 4,none⟩) m m))∧(∀ i,k ≤ i→i < n→wr.cell? ⟨go,i,none⟩ = some (.slice none 0 0))∧(∀ j,wr.frozen? ⟨go,j,none⟩ = false)∧go < wr.heap.size∧But [] w wr)) (fun iv _ => n - (intOf iv).toNat)
 case atStart => exact ⟨0,Nat.zero_le _,rfl,unhide RA,fun i hi => absurd hi (by omega),fun i _ hi => unhide CO i hi,unhide FO,s2,unhide B1⟩
 case round =>
  obtain ⟨k,hk,rfl,HI⟩:=hrel
  rename World => wr
  clear RA CO FO B1 s2
  by_cases hlt : k < n
  ·obtain ⟨fr,hfr⟩ : ∃ fr,fr = k * m:=⟨_,rfl⟩
   have hf1 : (k : Int) * (m : Int) = (fr : Int):=by rw [hfr,Int.natCast_mul]
   have hf2 : ((k : Int) + 1) * (m : Int) = (fr : Int) + (m : Int):=by rw [Int.add_mul,hf1]; omega
   have hf3 : fr + m ≤ nm:=by
    have:=Nat.mul_le_mul_right m (show k + 1 ≤ n by omega)
    rw [Nat.succ_mul] at this
    have:=unhide HNM
    omega
   obtain ⟨hrow,hdone,hyet,hfz,hgl,hbw⟩:=unhide HI
   have c0:=hyet k (Nat.le_refl _) hlt
   have HFR:=hide hfr
   clear hrow hdone hyet hbw hfr
   have hfz0:=hfz k
   go_wp2
   have hb : But [go] wr (wr.setCell ⟨go,k,none⟩ (.slice (some ⟨ga,fr * 4,none⟩) m m)):=(But.refl [go] wr).setCell (.inl (by simp)) _
   obtain ⟨⟨hP,hPf⟩,hdone,hyet,-,-,hbw⟩:=unhide HI
   have og:=unhide OG
   have hgl2 : ga < wr.heap.size:=by omega
   refine ⟨⟨k + 1,by omega,by go_num,⟨fun j hj => (hP j hj).but hb (by simp; omega),fun o => (hb.frozen (p:=⟨ga,o,none⟩) hgl2 (by simp; omega)).trans (hPf o)⟩,fun i hi => ?_,fun i h1 h2 => ?_,fun j => by rw [World.frozen?_setCell]; exact hfz j,Nat.lt_of_lt_of_le hgl hb.size,hbw.trans hb (fun x hx => by simp at hx; subst hx; exact .inr (by omega))⟩,by simp [intOf]; omega⟩
   ·by_cases e : i = k
    ·subst e
     rw [World.cell?_setCell_same _ _ _ c0,unhide HFR]
    ·rw [World.cell?_setCell_other _ _ _ _ (by simp; first | done | omega)]
     exact hdone i (by omega)
   ·rw [World.cell?_setCell_other _ _ _ _ (by simp; first | done | omega)]
    exact hyet i (by omega) h2
  ·obtain rfl : k = n:=by omega
   go_wp2
   go_ret
   refine ⟨go,ga,rfl,⟨by rw [← unhide HNM]; exact ⟨fun j hj => ⟨false,0,0,none,(unhide HI).1.1 j hj,zero_at _⟩,(unhide HI).1.2⟩,(unhide HI).2.1⟩,(unhide OG).1,(unhide OG).2,(unhide HI).2.2.2.2.1,(unhide HI).2.2.2.2.2⟩
theorem parts4_len : ∀ (vs : List Value),(∀ v ∈ vs,v.cells.size = 4)→(parts4 vs).length = vs.length * 4
 | [],_ => rfl
 | v :: vs,h => by
  have ih:=parts4_len vs (fun u hu => h u (by simp [hu]))
  have h0:=h v (by simp)
  unfold parts4 at *
  rw [List.flatMap_cons,List.length_append,ih,Array.length_toList,h0,List.length_cons]
  omega
set_option maxHeartbeats 8000000 in
set_option maxRecDepth 100000 in
theorem cloneLaw_any (b off c n : Nat) (fs : List Rat) (w : World) (hv : FracsAt w (.slice (some ⟨b,off,none⟩) n c) fs) (hN : n = fs.length) (h0 : 0 < n) (hl : n ≤ 1000) :
  Calls Tryz.prog 68 #[.slice (some ⟨b,off,none⟩) n c] w fun e w' => ∃ g c',e = .returned (.slice (some ⟨g,0,none⟩) n c')∧RowOf w' g n (fun k => fs[k]?.getD 0)∧w.heap.size ≤ g∧g < w'.heap.size∧But [] w w':=by
 have hnil:=fun W => Lib.run_eql_slice_nil (P:=Tryz.prog) W 38 29 (some ⟨b,off,none⟩) n c 0 0 Tryz.underlying38
 obtain ⟨S,X,Y,Q,hV⟩ : ∃ (S : Nat→Bool) (X Y : Nat→Int) (Q : Nat→Option Addr),∀ t,t < n→P4o w b (off + t * 4) (S t) (X t) (Y t) (Q t)∧FracAt w (.agg #[.bool (S t),.int .u64 (X t),.int .u64 (Y t),.pointer (Q t)]) (fs[t]?.getD 0):=by
  have h : ∀ t,∃ q : Bool × Int × Int × Option Addr,t < n→P4o w b (off + t * 4) q.1 q.2.1 q.2.2.1 q.2.2.2∧FracAt w (.agg #[.bool q.1,.int .u64 q.2.1,.int .u64 q.2.2.1,.pointer q.2.2.2]) (fs[t]?.getD 0):=fun t => by
   by_cases ht : t < n
   ·obtain ⟨s,x,y,p,h1,h2⟩:=hv.get t ht
    exact ⟨(s,x,y,p),fun _ => ⟨h1,h2⟩⟩
   ·exact ⟨(false,0,0,none),fun h => absurd h ht⟩
  obtain ⟨q,hq⟩:=Classical.axiomOfChoice h
  exact ⟨fun t => (q t).1,fun t => (q t).2.1,fun t => (q t).2.2.1,fun t => (q t).2.2.2,hq⟩
 obtain ⟨vs,hvs⟩ : ∃ vs : List Value,vs = (List.range n).map fun t => .agg #[.bool (S t),.int .u64 (X t),.int .u64 (Y t),.pointer (Q t)]:=⟨_,rfl⟩
 have hv4 : ∀ v ∈ vs,v.cells.size = 4:=fun v hv => by
  rw [hvs] at hv
  obtain ⟨t,-,rfl⟩:=List.mem_map.1 hv
  rfl
 have hvl : vs.length = n:=by rw [hvs]; simp
 have hpl:=parts4_len vs hv4
 rw [hvl] at hpl
 have hget : ∀ t k,t < n→k < 4→(parts4 vs)[4 * t + k]? = (#[Value.bool (S t),.int .u64 (X t),.int .u64 (Y t),.pointer (Q t)] : Array Value)[k]?:=fun t k ht hk => by
  rw [parts4_get vs hv4 t k (.agg #[.bool (S t),.int .u64 (X t),.int .u64 (Y t),.pointer (Q t)]) (by rw [hvs,List.getElem?_map,List.getElem?_range ht]; rfl) hk]
  rfl
 obtain ⟨i,hi,hz,hs,hbt⟩:=info_frac
 obtain ⟨W0,hW0⟩ : ∃ W0,W0 = w.alloc (.cells #[] 29):=⟨_,rfl⟩
 have hb0 : But [] w W0:=by rw [hW0]; exact (But.refl _ _).alloc _
 have hr:=fun ty => run_append_grow (P:=Tryz.prog) W0 38 ty 29 i (.agg #[.bool false,.int .u64 0,.int .u64 0,.pointer none]) Tryz.underlying38 hi hz ⟨w.heap.size,0,none⟩ 0 0 [] (by simp) (by simp) ⟨b,off,none⟩ n c (parts4 vs) (by rw [hs,hpl]) (fun j v hj => by
  have hjl : j < n * 4:=by rw [← hpl]; exact (List.getElem?_eq_some_iff.1 hj).1
  have hd : j = 4 * (j / 4) + j % 4:=by omega
  rw [hd,hget (j / 4) (j % 4) (by omega) (by omega)] at hj
  obtain ⟨⟨p0,p1,p2,p3⟩,-⟩:=hV (j / 4) (by omega)
  rw [addr_add]
  have : j % 4 = 0 ∨ j % 4 = 1 ∨ j % 4 = 2 ∨ j % 4 = 3:=by omega
  have eo : ∀ r,j % 4 = r→off + j = off + j / 4 * 4 + r:=fun r hr => by omega
  rcases this with h | h | h | h
  ·rw [h] at hj; simp at hj; subst hj; rw [eo 0 h]; exact hb0.cell_some p0 (by simp)
  ·rw [h] at hj; simp at hj; subst hj; rw [eo 1 h]; exact hb0.cell_some p1 (by simp)
  ·rw [h] at hj; simp at hj; subst hj; rw [eo 2 h]; exact hb0.cell_some p2 (by simp)
  ·rw [h] at hj; simp at hj; subst hj; rw [eo 3 h]; exact hb0.cell_some p3 (by simp)) (by omega) (by omega) (growslice_fits (by omega) (by rw [hbt]; omega))
 have hcg:=grownCap_ge W0 (0 + n) 0 29
 rw [Nat.zero_add] at hr hcg
 generalize grownCap W0 n 0 29 = cg at hr hcg
 have hsz : W0.heap.size = w.heap.size + 1:=by rw [hW0]; simp
 rw [Array.empty_append] at hr
 rw [hW0] at hr
 have H:=hide hr
 have HW0:=hide hW0
 have HB0:=hide hb0
 have HSZ:=hide hsz
 have HV:=hide hV
 have HG:=hide hget
 have HPL:=hide hpl
 clear hr hi hz hs hbt i hv hW0 hb0 hsz hV hget hpl hvs hv4 hvl hN
 go_enter Tryz.func68,Tryz.ntmps68
 go_wp2_with (at_builtin; refine wpList_app rfl _ _ 38 38 rfl _ _ _ _ rfl rfl (unhide H _) ?_)
 go_ret
 rw [← unhide HW0]
 have es : w.heap.size + 1 = W0.heap.size:=(unhide HSZ).symm
 have hbf : But [] W0 (W0.drew.alloc (.cells ((parts4 vs).toArray ++ Builtin.zeroCells (Value.agg #[.bool false,.int .u64 0,.int .u64 0,.pointer none]).cells (cg - n)) 29)):=((But.refl _ _).drew).alloc _
 refine ⟨w.heap.size + 1,cg,rfl,⟨fun t ht => ?_,fun o => ?_⟩,by omega,?_,(unhide HB0).trans' hbf⟩
 ·obtain ⟨-,hfr⟩:=unhide HV t ht
  have hcell : ∀ k,k < 4→(W0.drew.alloc (.cells ((parts4 vs).toArray ++ Builtin.zeroCells (Value.agg #[.bool false,.int .u64 0,.int .u64 0,.pointer none]).cells (cg - n)) 29)).cell? ⟨w.heap.size + 1,t * 4 + k,none⟩ = (#[Value.bool (S t),.int .u64 (X t),.int .u64 (Y t),.pointer (Q t)] : Array Value)[k]?:=fun k hk => by
   have e2 : w.heap.size + 1 = W0.drew.heap.size:=es
   rw [e2,World.cell?_alloc_new,Array.getElem?_append_left (by have:=unhide HPL; simp; omega),List.getElem?_toArray,show t * 4 + k = 4 * t + k from by omega]
   exact unhide HG t k ht hk
  exact ⟨S t,X t,Y t,Q t,⟨hcell 0 (by omega),hcell 1 (by omega),hcell 2 (by omega),hcell 3 (by omega)⟩,(hfr.but (unhide HB0)).but hbf⟩
 ·rw [es]
  have e2 : W0.heap.size = W0.drew.heap.size:=rfl
  rw [e2]
  simp
 ·rw [es]; simp
end Go.Proofs.YtikgmhpbdcdogaaGreatDoor

namespace Go.Proofs.YtikgmhpbdcdogaaGreatDoor
open Go.RowKit

theorem RowOf.beside {w w' : World} {g n : Nat} {F : Nat→Rat} {l : List Nat} (h : RowOf w g n F) (hb : But l w w') (hg : g < w.heap.size) (hn : g ∉ l) (hc : ∀ g ∈ l,∃ s,w.cell? ⟨g,0,none⟩ = some (.bool s)) : RowOf w' g n F :=
 ⟨fun j hj => (h.told j hj).beside hb hn hc,fun o => (hb.frozen (p:=⟨g,o,none⟩) hg hn).trans (h.loose o)⟩
theorem RowOf.congr {w : World} {g n : Nat} {F G : Nat→Rat} (h : RowOf w g n F) (e : ∀ j,j < n→F j = G j) : RowOf w g n G :=
 ⟨fun j hj => by rw [← e j hj]; exact h.told j hj,h.loose⟩
/-- the list behind k amounts, and what is left -/
def lowF (F L : Nat→Rat) (c : Rat) (e0 k : Nat) (j : Nat) : Rat:=if e0 ≤ j∧j < e0 + k then tkP L c (j - e0) else F j
def lowL (L : Nat→Rat) (c : Rat) (k j : Nat) : Rat:=if j < k then L j - tkP L c j else L j
theorem len_least {f g : Rat} {n : Nat} (h1 : Len f n) (h2 : Len g n) : Len (leastR f g) n:=by
 unfold leastR
 split <;> assumption
set_option maxHeartbeats 16000000 in
set_option maxRecDepth 100000 in
theorem lowest_any (ga gl N m cl e0 : Nat) (F L : Nat→Rat) (c : Rat) (vc : Value) (w : World) (hA : RowOf w ga N F) (hL : RowOf w gl m L) (hc : FracAt w vc c) (hal : ga < w.heap.size) (hll : gl < w.heap.size) (hne : ga ≠ gl) (he : e0 + m ≤ N) (hN : N < 1000000) (hm0 : 0 < m)
  (lL : ∀ k,k < m→Len (L k) 10000) (lC : ∀ k,k ≤ m→Len (tkC L c k) 10000) :
  Calls Tryz.prog 69 #[.slice (some ⟨ga,e0 * 4,none⟩) m m,.slice (some ⟨gl,0,none⟩) m cl,vc] w fun e w' => (∃ v,e = .returned v)∧RowOf w' ga N (lowF F L c e0 m)∧RowOf w' gl m (lowL L c m)∧But [ga,gl] w w':=by
 obtain ⟨x1,y1,p1,rfl,-⟩:=hc.agg
 generalize hsf : decide (c.num < 0) = s1 at *
 clear hsf
 have bA : But [] w (w.alloc (.cells #[.bool s1,.int .u64 x1,.int .u64 y1,.pointer p1] 29)):=(But.refl _ _).alloc _
 have X5:=hide (BoxAt.new w s1 x1 y1 p1 c 29 hc)
 have BA : Hid (But [ga,gl] w (w.alloc (.cells #[.bool s1,.int .u64 x1,.int .u64 y1,.pointer p1] 29))):=But.of_nil bA
 have RA:=hide (hA.but bA hal)
 have RL:=hide (hL.but bA hll)
 have LL:=hide lL
 have LC:=hide lC
 have hgs : w.heap.size < (w.alloc (.cells #[.bool s1,.int .u64 x1,.int .u64 y1,.pointer p1] 29)).heap.size:=by simp
 clear hA hL hc bA lL lC
 go_enter Tryz.func69,Tryz.ntmps69
 go_wp2
 have OW : Hid (w.heap.size ≤ w.heap.size):=Nat.le_refl _
 generalize hg5 : w.heap.size = g5 at *
 generalize w.alloc (.cells #[.bool s1,.int .u64 x1,.int .u64 y1,.pointer p1] 29) = U at *
 go_loopw [10] (fun iv wr => ∃ k : Nat,k ≤ m∧iv = .int .i64 (k : Int)∧Hid (RowOf wr ga N (lowF F L c e0 k)∧RowOf wr gl m (lowL L c k)∧BoxAt wr g5 (tkC L c k)∧g5 < wr.heap.size∧But [ga,gl] w wr)) (fun iv _ => m - (intOf iv).toNat)
 case atStart =>
  refine ⟨0,Nat.zero_le _,rfl,(unhide RA).congr (fun j _ => ?_),(unhide RL).congr (fun j _ => ?_),unhide X5,hgs,unhide BA⟩
  ·unfold lowF; rw [if_neg (by omega)]
  ·unfold lowL; rw [if_neg (by omega)]
 case round =>
  obtain ⟨k,hk,rfl,HI⟩:=hrel
  rename World => wr
  clear RA RL X5 BA hgs
  by_cases hlt : k < m
  ·go_wp2
   obtain ⟨hrA,hrL,hb5,hgl5,hbw⟩:=unhide HI
   obtain ⟨⟨t5,a5,b5,q5,k5,f5⟩,z5⟩:=id hb5
   obtain ⟨sr,xr,yr,pr,kr,fr⟩:=hrL.told k hlt
   have eL : lowL L c k k = L k:=by unfold lowL; rw [if_neg (by omega)]
   rw [eL] at fr
   have lt1:=unhide LC k (by omega)
   have lt2:=unhide LL k hlt
   refine lowest_region4 4 _ _ wr gl 0 m cl k wr.heap.size t5 a5 b5 q5 sr xr yr pr (tkP L c k) (by simp) g5 (Nat.le_refl _) (by simp [Act.eval]) (by simp [Act.eval]) (by simp [Act.eval]) hlt (by omega) k5 (by rw [Nat.zero_add]; exact kr) (fun w' hb => (least_any _ _ _ _ w' (f5.but hb) (fr.but hb) (lt1.mono (by omega)) (lt2.mono (by omega))).mono (fun e w'' ⟨s,x,y,p,h1,h2,h3⟩ => ⟨_,h1,h2,h3⟩)) ?_
   intro w1 g7 s7 x7 y7 p7 hb1 hg7 hP7 hz7 hf7
   simp only [putted,List.foldl_cons,List.foldl_nil,Act.put,List.setIfInBounds_toArray,List.set_cons_zero,List.set_cons_succ]
   have hP:=put4_but w1 g7 s7 x7 y7 p7
   have hcs : ∀ g ∈ [g7],∃ s,w1.cell? ⟨g,0,none⟩ = some (.bool s):=fun g hg => by simp at hg; subst hg; exact ⟨_,hP7.1⟩
   have al : ga < wr.heap.size:=by have:=hbw.size; omega
   have ll : gl < wr.heap.size:=by have:=hbw.size; omega
   have A1:=hide ((hrA.but hb1 al).beside hP (Nat.lt_of_lt_of_le al hb1.size) (by simp; omega) hcs)
   have L1:=hide ((hrL.but hb1 ll).beside hP (Nat.lt_of_lt_of_le ll hb1.size) (by simp; omega) hcs)
   have Y5:=hide ((hb5.but hb1).beside hP (by simp; omega) hcs)
   have X7 : Hid (BoxAt (put4 w1 g7 s7 x7 y7 p7) g7 (tkP L c k)):=BoxAt.put (f:=0) ⟨⟨false,0,0,none,hP7,zero_at _⟩,hz7⟩ hf7
   have M7:=hide (put4_p4 w1 g7 s7 x7 y7 p7 hP7)
   have F7:=hide (hf7.over hP7.1 hP)
   have BW:=hide ((hbw.trans (But.of_nil (l:=[ga,gl]) hb1) (fun x hx => .inl hx)).trans hP (fun x hx => by simp at hx; subst hx; exact .inr (by have:=hbw.size; omega)))
   have o7 : wr.heap.size ≤ g7:=hg7
   have S7 : g5 < (put4 w1 g7 s7 x7 y7 p7).heap.size:=Nat.lt_of_lt_of_le (Nat.lt_of_lt_of_le hgl5 hb1.size) hP.size
   generalize put4 w1 g7 s7 x7 y7 p7 = V1 at *
   clear hrA hrL hb5 hbw k5 f5 z5 kr fr hb1 hg7 hP7 hz7 hf7 hP hcs HI
   obtain ⟨m0,m1,m2,m3⟩:=unhide M7
   obtain ⟨sa,xa,ya,pa,⟨n0,n1,n2,n3⟩,-⟩:=(unhide A1).told (e0 + k) (by omega)
   have fzA : ∀ o,V1.frozen? ⟨ga,o,none⟩ = false:=(unhide A1).loose
   have eo : (e0 + k) * 4 = e0 * 4 + k * 4:=by omega
   rw [eo] at n0 n1 n2 n3
   go_wp2
   have hb2:=but_setCells V1 ga [.bool s7,.int .u64 x7,.int .u64 y7,.pointer p7] (e0 * 4 + k * 4)
   have a2:=(unhide A1).set (i:=e0 + k) (by omega) s7 x7 y7 p7 _ (unhide F7)
   rw [eo] at a2
   have alV : ga < V1.heap.size:=lt_of_cell n0
   have cgA : ∀ g ∈ [ga],∃ s,V1.cell? ⟨g,0,none⟩ = some (.bool s):=fun g hg => by simp at hg; subst hg; exact (unhide A1).bool (by omega)
   have llV : gl < V1.heap.size:=by
    obtain ⟨s,hs⟩:=(unhide L1).bool hm0
    exact lt_of_cell hs
   have l2:=(unhide L1).beside hb2 llV (by simp; omega) cgA
   have y52:=(unhide Y5).beside hb2 (by simp; omega) cgA
   have x72:=(unhide X7).beside hb2 (by simp; omega) cgA
   have bw2:=(unhide BW).trans hb2 (fun x hx => by simp at hx; subst hx; exact .inl (by simp))
   change Code.wp _ _ _ _ (V1.setCells ga (e0 * 4 + k * 4) [.bool s7,.int .u64 x7,.int .u64 y7,.pointer p7])
   have A2:=hide a2
   have L2:=hide l2
   have Y52:=hide y52
   have X72:=hide x72
   have BW2:=hide bw2
   have S72 : g5 < (V1.setCells ga (e0 * 4 + k * 4) [.bool s7,.int .u64 x7,.int .u64 y7,.pointer p7]).heap.size:=Nat.lt_of_lt_of_le S7 hb2.size
   clear a2 l2 y52 x72 bw2 hb2 cgA llV alV m0 m1 m2 m3 n0 n1 n2 n3 fzA A1 L1 Y5 X7 M7 F7 BW S7
   generalize V1.setCells ga (e0 * 4 + k * 4) [.bool s7,.int .u64 x7,.int .u64 y7,.pointer p7] = V2 at *
   obtain ⟨sr,xr,yr,pr,kr,fr⟩:=(unhide L2).told k hlt
   rw [eL] at fr
   obtain ⟨⟨t7,a7,b7,q7,k7,f7⟩,-⟩:=unhide X72
   refine lowest_region6 6 _ _ V2 gl (k * 4) 0 m cl k sr xr yr pr t7 a7 b7 q7 (L k) (tkP L c k) g7 (by simp) kr (unhide L2).loose (by simp [Act.eval]) (by simp [Act.eval]) (by simp [Act.eval]) (by omega) hlt (by omega) kr k7 (fun w' hb => fracSub_any _ _ _ _ w' (fr.but hb) (f7.but hb) (lt2.mono (by omega)) ((len_least lt1 lt2).mono (by omega))) ?_
   intro w3 s3 x3 y3 p3 hb3 hf3
   simp only [putted,List.foldl_cons,List.foldl_nil,Act.put,List.setIfInBounds_toArray,List.set_cons_zero,List.set_cons_succ]
   have alV : ga < V2.heap.size:=by
    obtain ⟨s,hs⟩:=(unhide A2).bool (by omega)
    exact lt_of_cell hs
   have llV : gl < V2.heap.size:=lt_of_cell kr.1
   have hrl3:=(unhide L2).but hb3 llV
   have hb4:=but_setCells w3 gl [.bool s3,.int .u64 x3,.int .u64 y3,.pointer p3] (k * 4)
   have cgL : ∀ g ∈ [gl],∃ s,w3.cell? ⟨g,0,none⟩ = some (.bool s):=fun g hg => by simp at hg; subst hg; exact hrl3.bool hm0
   have L4:=hide (hrl3.set hlt s3 x3 y3 p3 _ hf3)
   have A4:=hide (((unhide A2).but hb3 alV).beside hb4 (Nat.lt_of_lt_of_le alV hb3.size) (by simp; omega) cgL)
   have Y54:=hide (((unhide Y52).but hb3).beside hb4 (by simp; omega) cgL)
   have X74:=hide (((unhide X72).but hb3).beside hb4 (by simp; omega) cgL)
   have BW4:=hide (((unhide BW2).trans (But.of_nil (l:=[ga,gl]) hb3) (fun x hx => .inl hx)).trans hb4 (fun x hx => by simp at hx; subst hx; exact .inl (by simp)))
   have S74 : g5 < (w3.setCells gl (k * 4) [.bool s3,.int .u64 x3,.int .u64 y3,.pointer p3]).heap.size:=Nat.lt_of_lt_of_le (Nat.lt_of_lt_of_le S72 hb3.size) hb4.size
   clear kr fr k7 f7 hb3 hf3 hrl3 hb4 cgL alV llV A2 L2 Y52 X72 BW2 S72
   generalize w3.setCells gl (k * 4) [.bool s3,.int .u64 x3,.int .u64 y3,.pointer p3] = V4 at *
   obtain ⟨⟨t5,a5,b5,q5,⟨k0,k1,k2,k3⟩,f5⟩,z5⟩:=unhide Y54
   obtain ⟨⟨t7,a7,b7,q7,⟨l0,l1,l2,l3⟩,f7⟩,-⟩:=unhide X74
   have SU:=hide (in_parts (fracSub_any _ _ _ _ V4 f5 f7 (lt1.mono (by omega)) ((len_least lt1 lt2).mono (by omega))))
   clear f5 f7
   go_wp2_with fail
   refine (unhide SU).mono ?_
   rintro e w5 ⟨s5,x5,y5,p5,rfl,hf5,hb5⟩
   have Y56:=hide ((unhide Y54).but hb5)
   have HF5:=hide hf5
   have z5' : ∀ i,w5.frozen? ⟨g5,i,none⟩ = false:=(unhide Y56).2
   have alV : ga < V4.heap.size:=by
    obtain ⟨s,hs⟩:=(unhide A4).bool (by omega)
    exact lt_of_cell hs
   have llV : gl < V4.heap.size:=by
    obtain ⟨s,hs⟩:=(unhide L4).bool hm0
    exact lt_of_cell hs
   have A6:=hide ((unhide A4).but hb5 alV)
   have L6:=hide ((unhide L4).but hb5 llV)
   have BW6:=hide ((unhide BW4).trans (But.of_nil (l:=[ga,gl]) hb5) (fun x hx => .inl hx))
   have gl5 : g5 < w5.heap.size:=Nat.lt_of_lt_of_le S74 hb5.size
   have alW : ga < w5.heap.size:=Nat.lt_of_lt_of_le alV hb5.size
   have llW : gl < w5.heap.size:=Nat.lt_of_lt_of_le llV hb5.size
   clear hb5 hf5 SU k0 k1 k2 k3 l0 l1 l2 l3 z5 A4 L4 Y54 X74 BW4 S74 alV llV
   obtain ⟨⟨t9,a9,b9,q9,⟨k0,k1,k2,k3⟩,-⟩,-⟩:=unhide Y56
   go_wp2
   have hP:=put4_but w5 g5 s5 x5 y5 p5
   have hcs : ∀ g ∈ [g5],∃ s,w5.cell? ⟨g,0,none⟩ = some (.bool s):=fun g hg => by simp at hg; subst hg; exact (unhide Y56).bool
   refine ⟨⟨k + 1,by omega,by go_num,((unhide A6).beside hP alW (by simp; omega) hcs).congr (fun j hj => ?_),((unhide L6).beside hP llW (by simp; omega) hcs).congr (fun j hj => ?_),(unhide Y56).put (unhide HF5),Nat.lt_of_lt_of_le gl5 hP.size,(unhide BW6).trans hP (fun x hx => by simp at hx; subst hx; exact .inr (by omega))⟩,by simp [intOf]; omega⟩
   ·unfold setF lowF
    by_cases e : j = e0 + k
    ·rw [if_pos e,if_pos (by omega),e,Nat.add_sub_cancel_left]
    ·rw [if_neg e]
     by_cases h : e0 ≤ j∧j < e0 + k
     ·rw [if_pos h,if_pos (by omega)]
     ·rw [if_neg h,if_neg (by omega)]
   ·unfold setF lowL
    by_cases e : j = k
    ·rw [if_pos e,if_pos (by omega),e]
    ·rw [if_neg e]
     by_cases h : j < k
     ·rw [if_pos h,if_pos (by omega)]
     ·rw [if_neg h,if_neg (by omega)]
  ·obtain rfl : k = m:=by omega
   go_wp2
   go_end0
   exact ⟨⟨_,rfl⟩,(unhide HI).1,(unhide HI).2.1,(unhide HI).2.2.2.2⟩
end Go.Proofs.YtikgmhpbdcdogaaGreatDoor
