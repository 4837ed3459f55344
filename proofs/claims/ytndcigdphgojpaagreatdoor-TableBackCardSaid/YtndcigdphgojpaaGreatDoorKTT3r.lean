/- Rows of a call's own stay, and what is kept where one grows. -/
import Derived.Test.YtndcigdphgojpaaGreatDoorProg
import Derived.Deep.QuietTactic
import Derived.BigQuiet
import Derived.Outline
import Derived.Shelf.Spec.BitsCarry
import Derived.Shelf.Strings.OnBuilder
import Derived.Test.YtndcigdphgojpaaGreatDoorKTL2
import Derived.Test.YtndcigdphgojpaaGreatDoorKTTR
namespace Go.Proofs.YtndcigdphgojpaaGreatDoor
open Go.RowKit
set_option linter.unusedVariables false

theorem ownsRow_form {w : World} {base : Nat} {e : TypeId} {size : Nat} {v : Value} {n : Nat} {xs : List Value} (h : w.ownsRow base e size v n xs) : ∃ a c,v = .slice a n c:=by
 rcases h.2 with ⟨rfl,h0⟩ | ⟨g,cap,cur,rfl,-⟩
 ·exact ⟨none,0,by rw [h0]⟩
 ·exact ⟨_,_,rfl⟩
theorem but_of_grown {w0 w w' : World} {base : Nat} {e : TypeId} {size : Nat} {v : Value} {n : Nat} {xs : List Value} (h : But [] w0 w) (ho : w.ownsRow base e size v n xs) (hb : w0.heap.size ≤ base) (hg : w.grownBy w' v.ownBlock) : But [] w0 w' :=
 ⟨hg.os.trans h.os,hg.tape.trans h.tape,hg.output.trans h.output,Nat.le_trans h.size hg.size,fun k hk _ => by
  rw [hg.block k (Nat.lt_of_lt_of_le hk h.size) (fun e => by have:=(ho.lt k e.symm).1; omega)]
  exact h.block k hk (by simp)⟩
theorem ownsRow_but {w w' : World} {base : Nat} {e : TypeId} {size : Nat} {v : Value} {n : Nat} {xs : List Value} (h : w.ownsRow base e size v n xs) (hb : But [] w w') : w'.ownsRow base e size v n xs :=
 h.kept (row:=none) ⟨hb.os,hb.tape,hb.output,hb.size,fun k hk _ => hb.block k hk (by simp)⟩ (by
  by_cases h0 : v.ownBlock = none
  ·exact .inl h0
  ·exact .inr h0)
end Go.Proofs.YtndcigdphgojpaaGreatDoor

namespace Go.Proofs.YtndcigdphgojpaaGreatDoor
open Go.RowKit


set_option maxHeartbeats 8000000 in
set_option maxRecDepth 100000 in
theorem plainFs_any (v : Value) (qs : List (Int × Int)) (w : World) (hq : QsAt w v qs) (hf : ∀ q ∈ qs,Fits q) (hn : qs.length ≤ 1000) :
  Calls Tryz.prog 12 #[v] w fun e w' => ∃ v' vs,e = .returned v'∧Holds4 w' w.heap.size 36 v' (qs.map qf) vs∧But [] w w':=by
 obtain ⟨a,cap,rfl,hcap,hc⟩:=hq
 obtain ⟨R,X,Y,hV⟩ : ∃ (R : Nat→Bool) (X Y : Nat→Int),∀ i,i < qs.length→(∀ W,FracAt W (.agg #[.bool (R i),.int .u64 (X i),.int .u64 (Y i),.pointer none]) (qf (qs[i]?.getD (0,0))))∧∀ W,Calls Tryz.prog 36 #[.agg #[.int .i64 (qs[i]?.getD (0,0)).1,.int .i64 (qs[i]?.getD (0,0)).2]] W fun e w' => e = .returned (.agg #[.bool (R i),.int .u64 (X i),.int .u64 (Y i),.pointer none])∧But [] W w':=by
  have h : ∀ i,∃ t : Bool × Int × Int,i < qs.length→(∀ W,FracAt W (.agg #[.bool t.1,.int .u64 t.2.1,.int .u64 t.2.2,.pointer none]) (qf (qs[i]?.getD (0,0))))∧∀ W,Calls Tryz.prog 36 #[.agg #[.int .i64 (qs[i]?.getD (0,0)).1,.int .i64 (qs[i]?.getD (0,0)).2]] W fun e w' => e = .returned (.agg #[.bool t.1,.int .u64 t.2.1,.int .u64 t.2.2,.pointer none])∧But [] W w':=fun i => by
   by_cases hi : i < qs.length
   ·rw [List.getElem?_eq_getElem hi]
    obtain ⟨r,x,y,-,h1,h2⟩:=plainF_at qs[i] (hf _ (List.getElem_mem hi))
    exact ⟨(r,x,y),fun _ => ⟨h1,h2⟩⟩
   ·exact ⟨(false,0,0),fun h => absurd h hi⟩
  obtain ⟨t,ht⟩:=Classical.axiomOfChoice h
  exact ⟨fun i => (t i).1,fun i => (t i).2.1,fun i => (t i).2.2,ht⟩
 have hcell : ∀ i,i < qs.length→∃ b off,a = some ⟨b,off,none⟩∧w.cell? ⟨b,off + i * 2,none⟩ = some (.int .i64 (qs[i]?.getD (0,0)).1)∧w.cell? ⟨b,off + i * 2 + 1,none⟩ = some (.int .i64 (qs[i]?.getD (0,0)).2):=fun i hi => by
  rw [List.getElem?_eq_getElem hi]
  exact hc i _ (List.getElem?_eq_getElem hi)
 have hmap : ∀ i,(qs.map qf)[i]? = (qs[i]?).map qf:=fun i => List.getElem?_map ..
 have HM:=hide hmap
 have HC:=hide hcell
 have HV:=hide hV
 clear hmap hcell hV hc hf
 obtain ⟨n,hnn⟩ : ∃ n,n = qs.length:=⟨_,rfl⟩
 have HN:=hide hnn
 rw [← hnn] at hn hcap HC HV
 rw [← hnn]
 clear hnn
 go_enter Tryz.func12,Tryz.ntmps12
 go_wp2
 go_loopw [3,8] (fun o i wr => ∃ k : Nat,k ≤ n∧i = .int .i64 (k : Int)∧Hid (wr.ownsRow w.heap.size 36 4 o k (parts4 ((List.range k).map fun i => .agg #[.bool (R i),.int .u64 (X i),.int .u64 (Y i),.pointer none]))∧But [] w wr)) (fun _ i _ => n - (intOf i).toNat)
 case atStart => exact ⟨0,Nat.zero_le _,rfl,World.ownsRow_nil _ _ _ _,But.refl _ _⟩
 case round =>
  obtain ⟨k,hk,rfl,HI⟩:=hrel
  rename World => wr
  by_cases hlt : k < n
  ·obtain ⟨b,off,rfl,c0,c1⟩:=unhide HC k hlt
   have c0':=(unhide HI).2.cell_some c0 (by simp)
   have c1':=(unhide HI).2.cell_some c1 (by simp)
   obtain ⟨hva,hvb⟩:=unhide HV k hlt
   have PF:=hide hvb
   clear hva hvb c0 c1
   generalize (qs[k]?.getD (0,0)).1 = q1 at *
   generalize (qs[k]?.getD (0,0)).2 = q2 at *
   have ba:=(But.refl [] wr).alloc (.cells #[.int .i64 q1,.int .i64 q2] 82)
   have BA:=hide ba
   clear ba
   go_wp2_with fail
   refine (unhide PF _).mono ?_
   rintro e w1 ⟨rfl,hb1⟩
   have B1 : Hid (But [] wr w1):=(unhide BA).trans' hb1
   clear hb1
   obtain ⟨V,hV⟩ : ∃ V,V = w1.alloc (.cells #[.bool (R k),.int .u64 (X k),.int .u64 (Y k),.pointer none] 36):=⟨_,rfl⟩
   have cc : P4 V w1.heap.size (R k) (X k) (Y k) none:=by rw [hV]; exact ⟨by simp,by simp,by simp,by simp⟩
   have bV : But [] wr V:=(unhide B1).trans' (by rw [hV]; exact (But.refl _ _).alloc _)
   have oV:=ownsRow_but (unhide HI).1 bV
   obtain ⟨v',w',hr,ho,hg⟩:=append_frac V w.heap.size u3 k _ oV w1.heap.size _ _ _ _ cc (by omega) ((unhide HI).2.trans' bV).size
   have BF : Hid (But [] w w'):=but_of_grown ((unhide HI).2.trans' bV) oV (Nat.le_refl _) hg
   have HO:=hide ho
   rw [hV] at hr
   have HR:=hide hr
   clear hr ho hg oV bV cc hV
   go_wp2_with (at_builtin; refine wpList_app rfl _ _ 43 43 rfl _ _ v' w' rfl rfl (unhide HR) ?_)
   refine ⟨⟨k + 1,by omega,by go_num,by rw [List.range_succ,List.map_append]; exact unhide HO,unhide BF⟩,by simp [intOf]; omega⟩
  ·obtain rfl : k = n:=by omega
   obtain ⟨a',c',rfl⟩:=ownsRow_form (unhide HI).1
   go_wp2
   go_ret
   have hlen : (qs.map qf).length = k:=by rw [List.length_map]; exact (unhide HN).symm
   refine ⟨_,_,rfl,⟨by rw [hlen]; exact (unhide HI).1,by simp [hlen],fun i f hi => ?_⟩,(unhide HI).2⟩
   have hik : i < k:=by rw [← hlen]; exact (List.getElem?_eq_some_iff.1 hi).1
   refine ⟨_,_,_,_,by rw [List.getElem?_map,List.getElem?_range hik]; rfl,?_⟩
   have h1:=(unhide HV i hik).1 wr
   rw [unhide HM i] at hi
   cases hq : qs[i]? with
   | none => rw [hq] at hi; simp at hi
   | some q =>
    rw [hq] at hi h1
    simp only [Option.map_some,Option.some.injEq] at hi
    rw [← hi]
    exact h1
end Go.Proofs.YtndcigdphgojpaaGreatDoor

namespace Go.Proofs.YtndcigdphgojpaaGreatDoor
open Go.RowKit

theorem parts4_lenC : ∀ (vs : List Value),(∀ v ∈ vs,v.cells.size = 4)→(parts4 vs).length = vs.length * 4
 | [],_ => rfl
 | v :: vs,h => by
  have ih:=parts4_lenC vs (fun u hu => h u (by simp [hu]))
  have h0:=h v (by simp)
  unfold parts4 at *
  rw [List.flatMap_cons,List.length_append,ih,Array.length_toList,h0,List.length_cons]
  omega
set_option maxHeartbeats 8000000 in
set_option maxRecDepth 100000 in
theorem cloneRow_any (b off c n : Nat) (fs : List Rat) (w : World) (hv : FracsAt w (.slice (some ⟨b,off,none⟩) n c) fs) (hN : n = fs.length) (h0 : 0 < n) (hl : n ≤ 1000) :
  Calls Tryz.prog 35 #[.slice (some ⟨b,off,none⟩) n c] w fun e w' => ∃ g c',e = .returned (.slice (some ⟨g,0,none⟩) n c')∧n ≤ c'∧RowOf w' g n (fun k => fs[k]?.getD 0)∧w.heap.size ≤ g∧g < w'.heap.size∧But [] w w':=by
 have hnil:=fun W => Lib.run_eql_slice_nil (P:=Tryz.prog) W 43 36 (some ⟨b,off,none⟩) n c 0 0 Tryz.underlying43
 obtain ⟨S,X,Y,Q,hV⟩ : ∃ (S : Nat→Bool) (X Y : Nat→Int) (Q : Nat→Option Addr),∀ t,t < n→P4o w b (off + t * 4) (S t) (X t) (Y t) (Q t)∧FracAt w (.agg #[.bool (S t),.int .u64 (X t),.int .u64 (Y t),.pointer (Q t)]) (fs[t]?.getD 0):=by
  have h : ∀ t,∃ q : Bool × Int × Int × Option Addr,t < n→P4o w b (off + t * 4) q.1 q.2.1 q.2.2.1 q.2.2.2∧FracAt w (.agg #[.bool q.1,.int .u64 q.2.1,.int .u64 q.2.2.1,.pointer q.2.2.2]) (fs[t]?.getD 0):=fun t => by
   by_cases ht : t < n
   ·obtain ⟨s,x,y,p,h1,h2⟩:=hv.get t ht
    exact ⟨(s,x,y,p),fun _ => ⟨h1,h2⟩⟩
   ·exact ⟨(false,0,0,none),fun h => absurd h ht⟩
  obtain ⟨q,hq⟩:=Classical.axiomOfChoice h
  exact ⟨fun t => (q t).1,fun t => (q t).2.1,fun t => (q t).2.2.1,fun t => (q t).2.2.2,hq⟩
 obtain ⟨vs,hvs⟩ : ∃ vs : List Value,vs = (List.range n).map fun t => .agg #[.bool (S t),.int .u64 (X t),.int .u64 (Y t),.pointer (Q t)]:=⟨_,rfl⟩
 have hv4 : ∀ v ∈ vs,v.cells.size = 4:=fun v hv => by
  rw [hvs] at hv
  obtain ⟨t,-,rfl⟩:=List.mem_map.1 hv
  rfl
 have hvl : vs.length = n:=by rw [hvs]; simp
 have hpl:=parts4_lenC vs hv4
 rw [hvl] at hpl
 have hget : ∀ t k,t < n→k < 4→(parts4 vs)[4 * t + k]? = (#[Value.bool (S t),.int .u64 (X t),.int .u64 (Y t),.pointer (Q t)] : Array Value)[k]?:=fun t k ht hk => by
  rw [parts4_get vs hv4 t k (.agg #[.bool (S t),.int .u64 (X t),.int .u64 (Y t),.pointer (Q t)]) (by rw [hvs,List.getElem?_map,List.getElem?_range ht]; rfl) hk]
  rfl
 obtain ⟨i,hi,hz,hs,hbt⟩:=info_frac
 obtain ⟨W0,hW0⟩ : ∃ W0,W0 = w.alloc (.cells #[] 36):=⟨_,rfl⟩
 have hb0 : But [] w W0:=by rw [hW0]; exact (But.refl _ _).alloc _
 have hr:=fun ty => run_append_grow (P:=Tryz.prog) W0 43 ty 36 i (.agg #[.bool false,.int .u64 0,.int .u64 0,.pointer none]) Tryz.underlying43 hi hz ⟨w.heap.size,0,none⟩ 0 0 [] (by simp) (by simp) ⟨b,off,none⟩ n c (parts4 vs) (by rw [hs,hpl]) (fun j v hj => by
  have hjl : j < n * 4:=by rw [← hpl]; exact (List.getElem?_eq_some_iff.1 hj).1
  have hd : j = 4 * (j / 4) + j % 4:=by omega
  rw [hd,hget (j / 4) (j % 4) (by omega) (by omega)] at hj
  obtain ⟨⟨p0,p1,p2,p3⟩,-⟩:=hV (j / 4) (by omega)
  rw [addr_add]
  have : j % 4 = 0 ∨ j % 4 = 1 ∨ j % 4 = 2 ∨ j % 4 = 3:=by omega
  have eo : ∀ r,j % 4 = r→off + j = off + j / 4 * 4 + r:=fun r hr => by omega
  rcases this with h | h | h | h
  ·rw [h] at hj; simp at hj; subst hj; rw [eo 0 h]; exact hb0.cell_some p0 (by simp)
  ·rw [h] at hj; simp at hj; subst hj; rw [eo 1 h]; exact hb0.cell_some p1 (by simp)
  ·rw [h] at hj; simp at hj; subst hj; rw [eo 2 h]; exact hb0.cell_some p2 (by simp)
  ·rw [h] at hj; simp at hj; subst hj; rw [eo 3 h]; exact hb0.cell_some p3 (by simp)) (by omega) (by omega) (growslice_fits (by omega) (by rw [hbt]; omega))
 have hcg:=grownCap_ge W0 (0 + n) 0 36
 rw [Nat.zero_add] at hr hcg
 generalize grownCap W0 n 0 36 = cg at hr hcg
 have hsz : W0.heap.size = w.heap.size + 1:=by rw [hW0]; simp
 rw [Array.empty_append] at hr
 rw [hW0] at hr
 have H:=hide hr
 have HW0:=hide hW0
 have HB0:=hide hb0
 have HSZ:=hide hsz
 have HV:=hide hV
 have HG:=hide hget
 have HPL:=hide hpl
 clear hr hi hz hs hbt i hv hW0 hb0 hsz hV hget hpl hvs hv4 hvl hN
 go_enter Tryz.func35,Tryz.ntmps35
 go_wp2_with (at_builtin; refine wpList_app rfl _ _ 43 43 rfl _ _ _ _ rfl rfl (unhide H _) ?_)
 go_ret
 rw [← unhide HW0]
 have es : w.heap.size + 1 = W0.heap.size:=(unhide HSZ).symm
 have hbf : But [] W0 (W0.drew.alloc (.cells ((parts4 vs).toArray ++ Builtin.zeroCells (Value.agg #[.bool false,.int .u64 0,.int .u64 0,.pointer none]).cells (cg - n)) 36)):=((But.refl _ _).drew).alloc _
 refine ⟨w.heap.size + 1,cg,rfl,hcg,⟨fun t ht => ?_,fun o => ?_⟩,by omega,?_,(unhide HB0).trans' hbf⟩
 ·obtain ⟨-,hfr⟩:=unhide HV t ht
  have hcell : ∀ k,k < 4→(W0.drew.alloc (.cells ((parts4 vs).toArray ++ Builtin.zeroCells (Value.agg #[.bool false,.int .u64 0,.int .u64 0,.pointer none]).cells (cg - n)) 36)).cell? ⟨w.heap.size + 1,t * 4 + k,none⟩ = (#[Value.bool (S t),.int .u64 (X t),.int .u64 (Y t),.pointer (Q t)] : Array Value)[k]?:=fun k hk => by
   have e2 : w.heap.size + 1 = W0.drew.heap.size:=es
   rw [e2,World.cell?_alloc_new,Array.getElem?_append_left (by have:=unhide HPL; simp; omega),List.getElem?_toArray,show t * 4 + k = 4 * t + k from by omega]
   exact unhide HG t k ht hk
  exact ⟨S t,X t,Y t,Q t,⟨hcell 0 (by omega),hcell 1 (by omega),hcell 2 (by omega),hcell 3 (by omega)⟩,(hfr.but (unhide HB0)).but hbf⟩
 ·rw [es]
  have e2 : W0.heap.size = W0.drew.heap.size:=rfl
  rw [e2]
  simp
 ·rw [es]; simp
theorem cloneF_any (v : Value) (fs : List Rat) (w : World) (hv : FracsAt w v fs) (h0 : 0 < fs.length) (hl : fs.length ≤ 1000) :
  Calls Tryz.prog 35 #[v] w fun e w' => ∃ q c,e = .returned (.slice q fs.length c)∧FracsAt w' (.slice q fs.length c) fs∧But [] w w':=by
 rcases hv.open with ⟨e,-⟩ | ⟨-,b,off,cap,rfl,-,-⟩
 ·rw [e] at h0
  simp at h0
 refine (cloneRow_any b off cap fs.length fs w hv rfl h0 hl).mono ?_
 rintro e w' ⟨g,c',rfl,hc,hr,-,-,hb⟩
 refine ⟨_,c',rfl,⟨_,c',rfl,hc,fun i f hf => ⟨g,0,rfl,?_⟩⟩,hb⟩
 have hi:=(List.getElem?_eq_some_iff.1 hf).1
 have:=hr.told i hi
 rw [hf] at this
 rw [Nat.zero_add]
 exact this
end Go.Proofs.YtndcigdphgojpaaGreatDoor

namespace Go.Proofs.YtndcigdphgojpaaGreatDoor
open Go.RowKit Go.Shelf
set_option linter.unusedVariables false

/-- a word as a value -/
def strV (x : List UInt8) : Value:=.string ⟨x.toArray⟩
/-- words that lie in memory -/
def WordsAt (w : World) (v : Value) (ws : List (List UInt8)) : Prop:=∃ a cap,v = .slice a ws.length cap∧∀ i x,ws[i]? = some x→∃ b off,a = some ⟨b,off,none⟩∧w.cell? ⟨b,off + i,none⟩ = some (strV x)
end Go.Proofs.YtndcigdphgojpaaGreatDoor

namespace Go.Proofs.YtndcigdphgojpaaGreatDoor

theorem jn_suffix (d : UInt8) (ws : List (List UInt8)) (k : Nat) (h : k ≤ ws.length) : ∃ p,jn d ws = p ++ jn d (ws.drop k):=by
 rcases Nat.lt_or_ge k ws.length with h1 | h1
 ·obtain ⟨p,hp⟩:=tail_suffix d ws k h
  rcases tail_trim d ws k h1 with e | e
  ·exact ⟨p,by rw [hp,e]⟩
  ·exact ⟨p ++ [d],by rw [hp,e]; simp⟩
 ·refine ⟨jn d ws,?_⟩
  rw [List.drop_eq_nil_of_le h1]
  simp [jn]
theorem jn_from (d : UInt8) (ws : List (List UInt8)) (k : Nat) (h : k ≤ ws.length) : (jn d ws).drop (posW d ws k) = jn d (ws.drop k)∧posW d ws k + (jn d (ws.drop k)).length = (jn d ws).length:=by
 obtain ⟨p,hp⟩:=jn_suffix d ws k h
 have hl : (jn d ws).length = p.length + (jn d (ws.drop k)).length:=by rw [hp,List.length_append]
 have e : posW d ws k = p.length:=by unfold posW; omega
 rw [e]
 refine ⟨?_,by omega⟩
 rw [hp]
 simp
theorem posW_zero (d : UInt8) (ws : List (List UInt8)) : posW d ws 0 = 0:=by unfold posW; simp
theorem jn_byte (d : UInt8) (ws : List (List UInt8)) (k : Nat) (h : k < ws.length) (j : Nat) (hj : j < ws[k].length) : (jn d ws)[posW d ws k + j]? = some ws[k][j]:=by
 obtain ⟨h1,-⟩:=jn_from d ws k (by omega)
 rw [← List.getElem?_drop,h1,jn_drop d ws k h,List.getElem?_append_left hj,List.getElem?_eq_getElem hj]
theorem jn_word (d : UInt8) (ws : List (List UInt8)) (k : Nat) (h : k < ws.length) : ((jn d ws).drop (posW d ws k)).take ws[k].length = ws[k]:=by
 rw [(jn_from d ws k (by omega)).1,jn_drop d ws k h,List.take_left]
theorem jn_end (d : UInt8) (ws : List (List UInt8)) (k : Nat) (h : k < ws.length) : posW d ws k + ws[k].length ≤ (jn d ws).length∧((k + 1 = ws.length∧posW d ws k + ws[k].length = (jn d ws).length) ∨ (k + 1 < ws.length∧(jn d ws)[posW d ws k + ws[k].length]? = some d∧posW d ws (k + 1) = posW d ws k + ws[k].length + 1)):=by
 obtain ⟨h1,h2⟩:=jn_from d ws k (by omega)
 have hd:=jn_drop d ws k h
 have hl : (jn d (ws.drop k)).length = ws[k].length + (tailK d ws (k + 1)).length:=by rw [hd,List.length_append]
 refine ⟨by omega,?_⟩
 rcases Nat.lt_or_ge (k + 1) ws.length with h3 | h3
 ·right
  have et : tailK d ws (k + 1) = d :: jn d (ws.drop (k + 1)):=by
   unfold tailK
   rw [if_neg (by omega),drop_cons ws (k + 1) h3]
   rfl
  refine ⟨h3,?_,?_⟩
  ·rw [← List.getElem?_drop,h1,hd,List.getElem?_append_right (Nat.le_refl _),Nat.sub_self,et]
   rfl
  ·obtain ⟨-,h4⟩:=jn_from d ws (k + 1) (by omega)
   rw [et,List.length_cons] at hl
   omega
 ·left
  have hk : k + 1 = ws.length:=by omega
  refine ⟨hk,?_⟩
  rw [hk,tail_end] at hl
  simp at hl
  omega
end Go.Proofs.YtndcigdphgojpaaGreatDoor

namespace Go.Proofs.YtndcigdphgojpaaGreatDoor
open Go.RowKit

/-- the cells of a word with its place -/
def wcs (x : List UInt8 × Int) : List Value:=[strV x.1,.int .i64 x.2]
/-- a row of words with their places, of the call's own -/
def WRow (B : Nat) (w : World) (v : Value) (xs : List (List UInt8 × Int)) : Prop:=∃ us,w.ownsRow B 55 2 v xs.length us∧us.length = xs.length * 2∧∀ i x,xs[i]? = some x→∀ r u,(wcs x)[r]? = some u→us[i * 2 + r]? = some u
theorem WRow.form {B : Nat} {w : World} {v : Value} {xs : List (List UInt8 × Int)} (h : WRow B w v xs) : ∃ a c,v = .slice a xs.length c:=by
 obtain ⟨us,ho,-⟩:=h
 exact ownsRow_form ho
theorem WRow.nil (B : Nat) (w : World) : WRow B w (.slice none 0 0) []:=⟨[],⟨rfl,.inl ⟨rfl,rfl⟩⟩,rfl,fun i l h => by simp at h⟩
theorem WRow.but {B : Nat} {w w' : World} {v : Value} {xs : List (List UInt8 × Int)} (h : WRow B w v xs) (hb : But [] w w') : WRow B w' v xs:=by
 obtain ⟨us,ho,h1,h2⟩:=h
 exact ⟨us,ownsRow_but ho hb,h1,h2⟩
/-- words that lie in memory, each with some place -/
def PlacedAt (w : World) (v : Value) (ws : List (List UInt8)) : Prop:=∃ a cap,v = .slice a ws.length cap∧ws.length ≤ cap∧∀ i x,ws[i]? = some x→∃ b off p,a = some ⟨b,off,none⟩∧w.cell? ⟨b,off + i * 2,none⟩ = some (strV x)∧w.cell? ⟨b,off + i * 2 + 1,none⟩ = some (.int .i64 p)
theorem PlacedAt.but {w w' : World} {v : Value} {ws : List (List UInt8)} (h : PlacedAt w v ws) (hb : But [] w w') : PlacedAt w' v ws:=by
 obtain ⟨a,cap,e,hc,h⟩:=h
 refine ⟨a,cap,e,hc,fun i x hx => ?_⟩
 obtain ⟨b,off,p,e1,h1,h2⟩:=h i x hx
 exact ⟨b,off,p,e1,hb.cell_some h1 (by simp),hb.cell_some h2 (by simp)⟩
theorem WRow.placed {B : Nat} {w : World} {v : Value} {xs : List (List UInt8 × Int)} (h : WRow B w v xs) : PlacedAt w v (xs.map (·.1)):=by
 obtain ⟨us,ho,hl,h2⟩:=h
 rcases ho.2 with ⟨rfl,h0⟩ | ⟨g,cap,cur,rfl,-,-,hc,-⟩
 ·refine ⟨none,0,by rw [List.length_map,h0],by rw [List.length_map]; omega,fun i l hi => ?_⟩
  have:=(List.getElem?_eq_some_iff.1 hi).1
  rw [List.length_map] at this
  omega
 ·refine ⟨_,cap,by rw [List.length_map],by rw [List.length_map]; omega,fun i l hi => ?_⟩
  have hi':=(List.getElem?_eq_some_iff.1 hi).1
  rw [List.length_map] at hi'
  rw [List.getElem?_map,List.getElem?_eq_getElem hi'] at hi
  obtain rfl : xs[i].1 = l:=by simpa using hi
  have hx:=h2 i _ (List.getElem?_eq_getElem hi')
  have hcell : ∀ r u,r < 2→(wcs xs[i])[r]? = some u→w.cell? ⟨g,0 + i * 2 + r,none⟩ = some u:=fun r u hr hu => by
   rw [Nat.zero_add,ho.cellAt (i * 2 + r) (by omega)]
   exact hx r u hu
  exact ⟨g,0,xs[i].2,rfl,hcell 0 _ (by omega) rfl,hcell 1 _ (by omega) rfl⟩
theorem info_word : ∃ i,Tryz.prog.info? 55 = some i∧i.zero = some (.agg #[.string ⟨#[]⟩,.int .i64 0])∧i.size = 2∧i.bytes = 24:=by
 have h : (Tryz.prog.info? 55).map (fun i => (i.zero,i.size,i.bytes)) = some (some (.agg #[.string ⟨#[]⟩,.int .i64 0]),2,24):=by kernel_rfl
 cases e : Tryz.prog.info? 55 with
 | none => rw [e] at h; simp at h
 | some i =>
  rw [e] at h
  simp only [Option.map_some,Option.some.injEq,Prod.mk.injEq] at h
  exact ⟨i,rfl,h.1,h.2.1,h.2.2⟩
theorem WRow.app {B : Nat} {w : World} {v : Value} {xs : List (List UInt8 × Int)} (h : WRow B w v xs) (hB : B ≤ w.heap.size) (hk : xs.length < 100000) (x : List UInt8 × Int) (g : Nat) (hc : ∀ r u,(wcs x)[r]? = some u→w.cell? ⟨g,r,none⟩ = some u) :
  ∃ v' w',(Builtin.append_ #[46,46] 46 #[v,.slice (some ⟨g,0,none⟩) 1 1]).run Tryz.prog w = .ok v' w'∧WRow B w' v' (xs ++ [x])∧∀ w0,But [] w0 w→w0.heap.size ≤ B→But [] w0 w':=by
 obtain ⟨us,ho,hl,h2⟩:=h
 obtain ⟨i0,hi,hz0,hz1,hz2⟩:=info_word
 obtain ⟨v',w',hr,ho',hg,-⟩:=run_append_own (P:=Tryz.prog) w B 46 46 55 i0 _ 2 24 Tryz.underlying46 hi hz0 hz1 hz2 rfl (by decide) v xs.length us ho ⟨g,0,none⟩ 1 1 (wcs x) rfl (fun j u hj => by
   have:=hc j u hj
   have e : (Addr.add ⟨g,0,none⟩ j) = ⟨g,j,none⟩:=by simp [Addr.add]; omega
   rw [e]
   exact this) (fun u hu => by
   simp only [wcs,List.mem_cons,List.not_mem_nil,or_false] at hu
   rcases hu with rfl | rfl <;> rfl) (by unfold maxLen; omega) (by omega) hB
 refine ⟨v',w',hr,⟨us ++ wcs x,by rw [List.length_append]; exact ho',by rw [List.length_append,List.length_append,hl]; simp [wcs]; omega,fun i l' hi => ?_⟩,fun w0 h0 hb => but_of_grown h0 ho hb hg⟩
 rcases Nat.lt_or_ge i xs.length with hlt | hge
 ·rw [List.getElem?_append_left hlt] at hi
  have k1:=h2 i l' hi
  intro r u hu
  have hr2 : r < 2:=by have:=(List.getElem?_eq_some_iff.1 hu).1; simpa [wcs] using this
  rw [List.getElem?_append_left (by omega)]
  exact k1 r u hu
 ·have hi':=(List.getElem?_eq_some_iff.1 hi).1
  rw [List.length_append] at hi'
  obtain rfl : i = xs.length:=by simp at hi'; omega
  rw [List.getElem?_append_right (by omega),Nat.sub_self] at hi
  obtain rfl : x = l':=by simpa using hi
  intro r u hu
  rw [List.getElem?_append_right (by omega),show xs.length * 2 + r - us.length = r by omega]
  exact hu
end Go.Proofs.YtndcigdphgojpaaGreatDoor

namespace Go.Proofs.YtndcigdphgojpaaGreatDoor
open Go.RowKit Go.Shelf
set_option linter.unusedVariables false

/-- the first words with their places -/
def wpl (ws : List (List UInt8)) (k : Nat) : List (List UInt8 × Int):=(List.range k).map fun i => (ws[i]?.getD [],((posW 32 ws i : Nat) : Int))
theorem wpl_next (ws : List (List UInt8)) (k : Nat) : wpl ws (k + 1) = wpl ws k ++ [(ws[k]?.getD [],((posW 32 ws k : Nat) : Int))]:=by
 unfold wpl
 rw [List.range_succ,List.map_append]
 rfl
theorem wpl_len (ws : List (List UInt8)) (k : Nat) : (wpl ws k).length = k:=by simp [wpl]
theorem wpl_fst (ws : List (List UInt8)) : (wpl ws ws.length).map (·.1) = ws:=by
 unfold wpl
 rw [List.map_map]
 refine List.ext_getElem? fun i => ?_
 rw [List.getElem?_map]
 rcases Nat.lt_or_ge i ws.length with h | h
 ·rw [List.getElem?_range h,List.getElem?_eq_getElem h]
  simp [List.getElem?_eq_getElem h]
 ·rw [List.getElem?_eq_none (by simpa using h),List.getElem?_eq_none h]
  rfl
/-- where the k-th word begins, or a byte behind all -/
def frm (ws : List (List UInt8)) (k : Nat) : Nat:=if k < ws.length then posW 32 ws k else (jn 32 ws).length + 1
theorem frm_in {ws : List (List UInt8)} {k : Nat} (h : k < ws.length) : frm ws k = posW 32 ws k:=if_pos h
theorem frm_end {ws : List (List UInt8)} : frm ws ws.length = (jn 32 ws).length + 1:=if_neg (by omega)
set_option maxHeartbeats 16000000 in
set_option maxRecDepth 100000 in
theorem tableCut_any (ws : List (List UInt8)) (hw : ∀ x ∈ ws,x ≠ []∧∀ b ∈ x,b ≠ 32∧b ≠ 10) (h0 : 0 < ws.length) (hN : ws.length ≤ 1000) (t : ByteArray) (ht : t.data.toList = jn 32 ws) (hL : (jn 32 ws).length ≤ 50000) (w : World) :
  Calls Tryz.prog 14 #[.string t] w fun e w' => ∃ v,e = .returned v∧PlacedAt w' v ws∧But [] w w':=by
 obtain ⟨L,hLL⟩ : ∃ L,L = (jn 32 ws).length:=⟨_,rfl⟩
 have hts : t.size = L:=by rw [hLL,← ht]; simp
 have hts' : (t.size : Int) = (L : Int):=by rw [hts]
 have hL5 : L ≤ 50000:=by omega
 have IX : Hid (∀ m,m < L→∀ W,(Instr.index 9 (.string t) (.int .i64 (m : Int))).run Tryz.prog W = .ok (.int .u8 (((jn 32 ws)[m]?.getD 0).toNat : Int)) W):=fun m hm W => by
  have:=byte_at ht m (by omega) 9 Tryz.underlying9 W
  exact this
 have SLI : Hid (∀ i j : Nat,i ≤ j→j ≤ L→∀ W,(Instr.slice 9 (.string t) (some (.int .i64 (i : Int))) (some (.int .i64 (j : Int))) none).run Tryz.prog W = .ok (.string (t.extract i j)) W):=fun i j h1 h2 W => by
  rw [run_slice_string W 9 t .i64 .i64 _ _ Tryz.underlying9 (by omega) (by omega) (by omega)]
  rfl
 have EX : Hid (∀ k (hk : k < ws.length),t.extract (posW 32 ws k) (posW 32 ws k + ws[k].length) = ⟨ws[k].toArray⟩):=fun k hk => by
  have h1:=jn_word 32 ws k hk
  apply ByteArray.ext
  rw [← Array.toList_inj,ByteArray.data_extract,Array.toList_extract,List.extract_eq_take_drop,ht,Nat.add_sub_cancel_left]
  exact h1
 have HW:=hide hw
 have HLL:=hide hLL
 clear hw ht hL hLL hts
 go_enter Tryz.func14,Tryz.ntmps14
 go_wp2
 go_loopw [3,4,9] (fun v f iv wr => ∃ i k : Nat,i ≤ L + 1∧k ≤ ws.length∧iv = .int .i64 (i : Int)∧f = .int .i64 ((frm ws k : Nat) : Int)∧Hid (WRow w.heap.size wr v (wpl ws k))∧Hid (But [] w wr)∧Hid ((∀ h : k < ws.length,posW 32 ws k ≤ i∧i ≤ posW 32 ws k + ws[k].length)∧(k = ws.length→i = L + 1))) (fun _ _ iv _ => L + 1 - (intOf iv).toNat)
 case atStart => exact ⟨0,0,by omega,by omega,rfl,by rw [frm_in h0,posW_zero]; rfl,WRow.nil _ _,But.refl _ _,fun h => ⟨by rw [posW_zero]; omega,by omega⟩,fun h => by omega⟩
 case round =>
  obtain ⟨i,k,hi,hk,rfl,rfl,HR,HB,HK⟩:=hrel
  rename World => wr
  by_cases hlt : i < L + 1
  ·have hkl : k < ws.length:=by
    rcases Nat.lt_or_ge k ws.length with h | h
    ·exact h
    ·have:=(unhide HK).2 (by omega); omega
   obtain ⟨p1,p2⟩:=(unhide HK).1 hkl
   obtain ⟨q1,q2⟩:=jn_end 32 ws k hkl
   have hmem:=unhide HW ws[k] (List.getElem_mem hkl)
   obtain ⟨j,hj⟩ : ∃ j,i = posW 32 ws k + j:=⟨i - posW 32 ws k,by omega⟩
   by_cases hjl : j < ws[k].length
   ·have hb:=jn_byte 32 ws k hkl j hjl
    have hne:=hmem.2 ws[k][j] (List.getElem_mem hjl)
    have hiL : i < L:=by have:=unhide HLL; omega
    obtain ⟨c,hc⟩ : ∃ c : UInt8,c = ws[k][j]:=⟨_,rfl⟩
    rw [← hc] at hb hne
    have IX1:=unhide IX i hiL
    rw [hj,hb,← hj] at IX1
    simp only [Option.getD_some] at IX1
    have z1 : ¬ (c.toNat : Int) = 32:=fun e => hne.1 (UInt8.toNat_inj.1 (show c.toNat = 32 by omega))
    have z2 : ¬ (c.toNat : Int) = 10:=fun e => hne.2 (UInt8.toNat_inj.1 (show c.toNat = 10 by omega))
    obtain ⟨z,hz⟩ : ∃ z : Int,z = (c.toNat : Int):=⟨_,rfl⟩
    rw [← hz] at z1 z2 IX1
    have n1 : (z != 32) = true:=bne_iff_ne.2 z1
    have n2 : (z != 10) = true:=bne_iff_ne.2 z2
    clear hz
    have l1 : decide ((i : Int) < (t.size : Int)) = true:=decide_eq_true (by omega)
    have l2 : (i : Int) < (t.size : Int):=by omega
    have NX:=hide (show (∀ h : k < ws.length,posW 32 ws k ≤ i + 1∧i + 1 ≤ posW 32 ws k + ws[k].length)∧(k = ws.length→i + 1 = L + 1) from ⟨fun _ => ⟨by omega,by omega⟩,fun h => by omega⟩)
    clear hb hne hc hj q1 q2 p1 p2 hmem hjl HK
    go_wp2
    exact ⟨⟨i + 1,k,by omega,hk,by go_num,rfl,unhide HR,unhide HB,unhide NX⟩,by simp [intOf]; omega⟩
   ·have hjj : j = ws[k].length:=by omega
    have hii : i = posW 32 ws k + ws[k].length:=by omega
    have hfl : frm ws k < i:=by
     rw [frm_in hkl,hii]
     have:=List.length_pos_iff.2 hmem.1
     omega
    have hiL : i ≤ L:=by have:=unhide HLL; omega
    have SL1:=unhide SLI (frm ws k) i (by omega) hiL
    have hex : t.extract (frm ws k) i = ⟨ws[k].toArray⟩:=by rw [frm_in hkl,hii]; exact unhide EX k hkl
    rw [hex] at SL1
    have hge : ws[k]? = some ws[k]:=List.getElem?_eq_getElem hkl
    have hnx:=wpl_next ws k
    rw [hge,Option.getD_some,← frm_in hkl] at hnx
    have hlen:=wpl_len ws k
    have nxt : frm ws (k + 1) = i + 1∧(∀ h : k + 1 < ws.length,posW 32 ws (k + 1) ≤ i + 1∧i + 1 ≤ posW 32 ws (k + 1) + ws[k + 1].length)∧(k + 1 = ws.length→i + 1 = L + 1):=by
     rcases q2 with ⟨e1,e2⟩ | ⟨e1,e2,e3⟩
     ·refine ⟨?_,fun h => by omega,fun _ => by have:=unhide HLL; omega⟩
      rw [e1,frm_end,← e2]
      omega
     ·refine ⟨by rw [frm_in e1]; omega,fun h => ⟨by omega,by omega⟩,fun h => by omega⟩
    have test : i = L ∨ (i < L∧∀ W,(Instr.index 9 (.string t) (.int .i64 (i : Int))).run Tryz.prog W = .ok (.int .u8 32) W):=by
     rcases q2 with ⟨e1,e2⟩ | ⟨e1,e2,e3⟩
     ·left; have:=unhide HLL; omega
     ·right
      have hlt2 : i < L:=by
       have:=(List.getElem?_eq_some_iff.1 e2).1
       have:=unhide HLL
       omega
      refine ⟨hlt2,fun W => ?_⟩
      have:=unhide IX i hlt2 W
      rw [hii,e2,← hii] at this
      exact this
    obtain ⟨x,hx⟩ : ∃ x,x = ws[k]:=⟨_,rfl⟩
    rw [← hx] at SL1 hnx
    obtain ⟨f,hf⟩ : ∃ f,f = frm ws k:=⟨_,rfl⟩
    rw [← hf] at SL1 hnx hfl ⊢
    have bB : But [] wr (wr.alloc (.cells #[.string ⟨x.toArray⟩,.int .i64 (f : Int)] 55)):=(But.refl [] wr).alloc _
    have hbw:=(unhide HB).trans' bB
    obtain ⟨v',w',hr,h1,h2⟩:=((unhide HR).but bB).app hbw.size (by omega) (x,(f : Int)) wr.heap.size (fun r u hu => by
     have hr2 : r < 2:=by have:=(List.getElem?_eq_some_iff.1 hu).1; simpa [wcs] using this
     rw [World.cell?_alloc_new,← Array.getElem?_toList]
     exact hu)
    rw [← hnx] at h1
    have RUN:=hide hr
    have H1:=hide h1
    have H2:=hide (h2 w hbw (Nat.le_refl _))
    have NXT:=hide nxt
    obtain ⟨va,hva⟩ : ∃ a c,u3 = .slice a (wpl ws k).length c:=(unhide HR).form
    obtain ⟨vc,rfl⟩:=hva
    rw [hlen] at RUN ⊢
    have g1 : (f : Int) < (i : Int):=by omega
    clear hr h1 h2 nxt hnx hlen hex hge q1 q2 p1 p2 hmem hjl HK hj hjj hii hx hf hbw bB HR hfl
    rcases test with rfl | ⟨hlt2,IX1⟩
    ·have l1 : decide ((i : Int) < (t.size : Int)) = false:=decide_eq_false (by omega)
     have l2 : ¬ (i : Int) < (t.size : Int):=by omega
     go_wp2_with (at_builtin; refine wpList_app rfl _ _ 46 46 rfl _ _ _ _ rfl rfl (unhide RUN) ?_)
     exact ⟨⟨i + 1,k + 1,by omega,by omega,by go_num,by rw [(unhide NXT).1] <;> go_num,unhide H1,unhide H2,(unhide NXT).2⟩,by simp [intOf] <;> omega⟩
    ·have l1 : decide ((i : Int) < (t.size : Int)) = true:=decide_eq_true (by omega)
     have l2 : (i : Int) < (t.size : Int):=by omega
     go_wp2_with (at_builtin; refine wpList_app rfl _ _ 46 46 rfl _ _ _ _ rfl rfl (unhide RUN) ?_)
     exact ⟨⟨i + 1,k + 1,by omega,by omega,by go_num,by rw [(unhide NXT).1] <;> go_num,unhide H1,unhide H2,(unhide NXT).2⟩,by simp [intOf] <;> omega⟩
  ·obtain rfl : i = L + 1:=by omega
   have hke : k = ws.length:=by
    rcases Nat.lt_or_ge k ws.length with h | h
    ·have:=((unhide HK).1 h).2
     have:=(jn_end 32 ws k h).1
     have:=unhide HLL
     omega
    ·omega
   subst hke
   have hp:=(unhide HR).placed
   rw [wpl_fst] at hp
   have HP:=hide hp
   clear hp HR HK
   go_wp2
   exact bodyPost_ret (v:=u3) (by simp [results,Tryz.results14,go_sem]) rfl ⟨u3,rfl,unhide HP,unhide HB⟩
end Go.Proofs.YtndcigdphgojpaaGreatDoor

namespace Go.Proofs.YtndcigdphgojpaaGreatDoor
open Go.RowKit Go.Shelf
set_option linter.unusedVariables false

/-- the words of a table's text -/
def wsT (nu : List UInt8) (rs : List (List UInt8)) : List (List UInt8):=[116,97,98,108,101] :: [116] :: [102,114,111,109] :: nu :: [114,97,116,101,115] :: rs
set_option maxHeartbeats 4000000 in
set_option maxRecDepth 100000 in
theorem head_0 (w : World) : Calls Tryz.prog 38 #[.int .i64 0,.string ⟨#[116,97,98,108,101]⟩] w fun e w' => e = .returned (.bool true)∧But [] w w':=by
 go_enter Tryz.func38,Tryz.ntmps38
 go_wp2
 go_ret
 exact ⟨rfl,But.refl _ _⟩
set_option maxHeartbeats 4000000 in
set_option maxRecDepth 100000 in
theorem head_1 (s : ByteArray) (w : World) : Calls Tryz.prog 38 #[.int .i64 1,.string s] w fun e w' => e = .returned (.bool true)∧But [] w w':=by
 go_enter Tryz.func38,Tryz.ntmps38
 go_wp2
 go_ret
 exact ⟨rfl,But.refl _ _⟩
set_option maxHeartbeats 4000000 in
set_option maxRecDepth 100000 in
theorem head_2 (w : World) : Calls Tryz.prog 38 #[.int .i64 2,.string ⟨#[102,114,111,109]⟩] w fun e w' => e = .returned (.bool true)∧But [] w w':=by
 go_enter Tryz.func38,Tryz.ntmps38
 go_wp2
 go_ret
 exact ⟨rfl,But.refl _ _⟩
set_option maxHeartbeats 4000000 in
set_option maxRecDepth 100000 in
theorem head_3 (s : ByteArray) (w : World) : Calls Tryz.prog 38 #[.int .i64 3,.string s] w fun e w' => e = .returned (.bool true)∧But [] w w':=by
 go_enter Tryz.func38,Tryz.ntmps38
 go_wp2
 go_ret
 exact ⟨rfl,But.refl _ _⟩
set_option maxHeartbeats 4000000 in
set_option maxRecDepth 100000 in
theorem head_4 (w : World) : Calls Tryz.prog 38 #[.int .i64 4,.string ⟨#[114,97,116,101,115]⟩] w fun e w' => e = .returned (.bool true)∧But [] w w':=by
 go_enter Tryz.func38,Tryz.ntmps38
 go_wp2
 go_ret
 exact ⟨rfl,But.refl _ _⟩
theorem head_any (nu : List UInt8) (rs : List (List UInt8)) (i : Nat) (x : List UInt8) (hi : i < 5) (hx : (wsT nu rs)[i]? = some x) (w : World) : Calls Tryz.prog 38 #[.int .i64 (i : Int),.string ⟨x.toArray⟩] w fun e w' => e = .returned (.bool true)∧But [] w w':=by
 have : i = 0 ∨ i = 1 ∨ i = 2 ∨ i = 3 ∨ i = 4:=by omega
 rcases this with rfl | rfl | rfl | rfl | rfl
 ·obtain rfl:=Option.some.inj hx; exact head_0 w
 ·exact head_1 _ w
 ·obtain rfl:=Option.some.inj hx; exact head_2 w
 ·exact head_3 _ w
 ·obtain rfl:=Option.some.inj hx; exact head_4 w
theorem PlacedAt.at {w : World} {q : Option Addr} {n c : Nat} {ws : List (List UInt8)} (h : PlacedAt w (.slice q n c) ws) (i : Nat) (x : List UInt8) (hx : ws[i]? = some x) : ∃ b off p,q = some ⟨b,off,none⟩∧w.cell? ⟨b,off + i * 2,none⟩ = some (.string ⟨x.toArray⟩)∧w.cell? ⟨b,off + i * 2 + 1,none⟩ = some (.int .i64 p):=by
 obtain ⟨a,cap,e,-,h⟩:=h
 simp only [Value.slice.injEq] at e
 obtain ⟨b,off,p,e1,h1,h2⟩:=h i x hx
 exact ⟨b,off,p,e.1.trans e1,h1,h2⟩
set_option maxHeartbeats 8000000 in
set_option maxRecDepth 100000 in
theorem headed_any (nu : List UInt8) (rs : List (List UInt8)) (q : Option Addr) (n c : Nat) (m : Int) (w : World) (hn : n = (wsT nu rs).length) (hN : n < 1000000) (hv : PlacedAt w (.slice q n c) (wsT nu rs)) :
  Calls Tryz.prog 15 #[.slice q n c,.int .i64 m] w fun e w' => e = .returned (.tuple #[.int .i64 0,.bool true])∧But [] w w':=by
 have HD:=hide (head_any nu rs)
 have h5 : 5 ≤ n:=by rw [hn]; simp [wsT]
 have HV:=hide hv
 have HN:=hide hn
 clear hv hn
 go_enter Tryz.func15,Tryz.ntmps15
 go_wp2
 go_loopw [7] (fun iv wr => ∃ i : Nat,i ≤ 5∧iv = .int .i64 (i : Int)∧Hid (But [] w wr)) (fun iv _ => 5 - (intOf iv).toNat)
 case atStart => exact ⟨0,by omega,rfl,But.refl _ _⟩
 case round =>
  obtain ⟨i,hi,rfl,HB⟩:=hrel
  rename World => wr
  by_cases hlt : i < 5
  ·obtain ⟨x,hx⟩ : ∃ x,(wsT nu rs)[i]? = some x:=⟨_,List.getElem?_eq_getElem (by have:=unhide HN; omega)⟩
   obtain ⟨b,off,p,rfl,c0,c1⟩:=((unhide HV).but (unhide HB)).at i x hx
   have HD1:=hide (unhide HD i x hlt hx)
   have n1 : ((i : Int) == (n : Int)) = false:=beq_eq_false_iff_ne.2 (by omega)
   clear hx c1
   go_wp2_with fail
   refine (unhide HD1 _).mono ?_
   rintro e w1 ⟨rfl,hb1⟩
   have B1:=hide ((unhide HB).trans' hb1)
   clear hb1 c0 HD1
   go_wp2
   exact ⟨⟨i + 1,by omega,by go_num,unhide B1⟩,by simp [intOf] <;> omega⟩
  ·obtain rfl : i = 5:=by omega
   go_wp2
   exact bodyPost_ret (v:=.tuple #[.int .i64 0,.bool true]) (by simp [results,Tryz.results15,go_sem]) rfl ⟨rfl,unhide HB⟩
end Go.Proofs.YtndcigdphgojpaaGreatDoor

namespace Go.Proofs
open Go.Shelf Go.RowKit
def Tryz.lays156_ren : Go.Shelf.Ren := ⟨fun | 156 => 45 | 165 => 82 | 166 => 83 | 169 => 84 | 240 => 124 | 241 => 125 | 276 => 146 | 277 => 147 | n => n, fun | 0 => 0 | 3 => 3 | 4 => 4 | 5 => 5 | 9 => 9 | 20 => 20 | 31 => 92 | 37 => 113 | 70 => 133 | 72 => 135 | 75 => 28 | 76 => 87 | 80 => 31 | 127 => 154 | 164 => 114 | n => n, fun | n => n⟩
theorem Tryz.lays156 : Go.Proofs.Lays.n156 Tryz.prog Tryz.lays156_ren := {
  mixed := by kernel_rfl
  f156 := Tryz.func45.trans (congrArg some (by kernel_rfl))
  f165 := Tryz.func82.trans (congrArg some (by kernel_rfl))
  f166 := Tryz.func83.trans (congrArg some (by kernel_rfl))
  f169 := Tryz.func84.trans (congrArg some (by kernel_rfl))
  f240 := Tryz.func124.trans (congrArg some (by kernel_rfl))
  f241 := Tryz.func125.trans (congrArg some (by kernel_rfl))
  f276 := Tryz.func146.trans (congrArg some (by kernel_rfl))
  f277 := Tryz.func147.trans (congrArg some (by kernel_rfl))
  t0 := Tryz.underlying0
  a0 := Tryz.isAgg0
  z0 := Tryz.sizeOf0
  v0 := Tryz.zeroValue0
  t3 := Tryz.underlying3
  a3 := Tryz.isAgg3
  z3 := Tryz.sizeOf3
  v3 := Tryz.zeroValue3
  t4 := Tryz.underlying4
  a4 := Tryz.isAgg4
  z4 := Tryz.sizeOf4
  v4 := Tryz.zeroValue4
  t9 := Tryz.underlying9
  a9 := Tryz.isAgg9
  z9 := Tryz.sizeOf9
  v9 := Tryz.zeroValue9
  t20 := Tryz.underlying20
  a20 := Tryz.isAgg20
  z20 := Tryz.sizeOf20
  v20 := Tryz.zeroValue20
  t31 := Tryz.underlying92
  a31 := Tryz.isAgg92
  z31 := Tryz.sizeOf92
  v31 := Tryz.zeroValue92
  t37 := Tryz.underlying113
  a37 := Tryz.isAgg113
  z37 := Tryz.sizeOf113
  v37 := Tryz.zeroValue113
  t70 := Tryz.underlying133
  a70 := Tryz.isAgg133
  z70 := Tryz.sizeOf133
  v70 := Tryz.zeroValue133
  t72 := Tryz.underlying135
  a72 := Tryz.isAgg135
  z72 := Tryz.sizeOf135
  v72 := Tryz.zeroValue135
  t75 := Tryz.underlying28
  a75 := Tryz.isAgg28
  z75 := Tryz.sizeOf28
  v75 := Tryz.zeroValue28
  t76 := Tryz.underlying87
  a76 := Tryz.isAgg87
  z76 := Tryz.sizeOf87
  v76 := Tryz.zeroValue87
  t127 := Tryz.underlying154
  a127 := Tryz.isAgg154
  z127 := Tryz.sizeOf154
  v127 := Tryz.zeroValue154
  t164 := Tryz.underlying114
  a164 := Tryz.isAgg114
  z164 := Tryz.sizeOf114
  v164 := Tryz.zeroValue114 }
theorem Tryz.builderExtra156 : Builder.Extra Tryz.prog Tryz.lays156_ren where
 sizeBuilder:=by kernel_rfl
 liesBuilder:=by kernel_rfl
 t5:=Tryz.underlying5
 a5:=Tryz.isAgg5
 z5:=Tryz.sizeOf5
 v5:=Tryz.zeroValue5
 infoByte:=by kernel_rfl
 cellsByte:=by kernel_rfl
 sizeByte:=by kernel_rfl
 neB5:=by decide
end Go.Proofs
namespace Go.Proofs.YtndcigdphgojpaaGreatDoor
open Go.RowKit Go.Shelf
set_option linter.unusedVariables false

theorem join_jn (d : UInt8) : ∀ xs : List (List UInt8),Lib.join xs [d] = jn d xs
 | [] => rfl
 | [x] => Lib.join_one x [d]
 | x :: y :: l => by
  have ih:=join_jn d (y :: l)
  rw [Lib.join_cons] at ih ⊢
  show x ++ Lib.joinTail [d] (y :: l) = x ++ d :: jn d (y :: l)
  rw [← ih]
  simp [Lib.joinTail]
theorem strJoin_any (b o c : Nat) (xs : List (List UInt8)) (w : World) (hw : WordsAt w (.slice (some ⟨b,o,none⟩) xs.length c) xs) (hN : xs.length ≤ 1000) (hcap : xs.length ≤ c) (hbk : b < w.heap.size) (hlen : (jn 32 xs).length ≤ 1000000) :
  Calls Tryz.prog 45 #[.slice (some ⟨b,o,none⟩) xs.length c,.string ⟨#[32]⟩] w fun e w' => e = .returned (strV (jn 32 xs))∧But [] w w':=by
 have hx:=Any.strings_Join Tryz.lays156 Tryz.builderExtra156 b o c (xs.map fun x => ⟨x.toArray⟩) ⟨#[32]⟩ w (fun j x hj => by
  rw [List.getElem?_map] at hj
  cases e : xs[j]? with
  | none => rw [e] at hj; simp at hj
  | some y =>
   rw [e] at hj
   simp only [Option.map_some,Option.some.injEq] at hj
   subst hj
   obtain ⟨a,cap,ha,hw⟩:=hw
   simp only [Value.slice.injEq] at ha
   obtain ⟨b',o',e1,h1⟩:=hw j y e
   rw [← ha.1] at e1
   simp only [Option.some.injEq,Addr.mk.injEq,and_true] at e1
   rw [e1.1,e1.2]
   exact h1) hbk (by rw [List.length_map]; omega) (by rw [List.length_map]; omega) (by
    rw [List.map_map]
    have e : ((fun x : ByteArray => x.data.toList) ∘ fun x : List UInt8 => (⟨x.toArray⟩ : ByteArray)) = id:=by funext x; simp
    rw [e,List.map_id]
    show (Lib.join xs [32]).length ≤ _
    rw [join_jn]
    omega)
 rw [List.length_map] at hx
 refine hx.mono ?_
 rintro e w' ⟨rfl,h2⟩
 refine ⟨?_,But.of_below h2⟩
 rw [List.map_map]
 have e : ((fun x : ByteArray => x.data.toList) ∘ fun x : List UInt8 => (⟨x.toArray⟩ : ByteArray)) = id:=by funext x; simp
 rw [e,List.map_id]
 show Ending.returned (.string ⟨(Lib.join xs [32]).toArray⟩) = _
 rw [join_jn]
 rfl
end Go.Proofs.YtndcigdphgojpaaGreatDoor

namespace Go.Proofs.YtndcigdphgojpaaGreatDoor
open Go.RowKit Go.Shelf
set_option linter.unusedVariables false

/-- block g holds n texts, the first k of them told -/
structure SRow (w : World) (g n k : Nat) (xs : List (List UInt8)) : Prop where
 told : ∀ i x,i < k→xs[i]? = some x→w.cell? ⟨g,i,none⟩ = some (strV x)
 blank : ∀ i,k ≤ i→i < n→w.cell? ⟨g,i,none⟩ = some (.string ⟨#[]⟩)
 loose : ∀ j,w.frozen? ⟨g,j,none⟩ = false
 lt : g < w.heap.size
theorem SRow.but {w w' : World} {g n k : Nat} {xs : List (List UInt8)} (h : SRow w g n k xs) (hb : But [] w w') : SRow w' g n k xs :=
 ⟨fun i x hi hx => hb.cell_some (h.told i x hi hx) (by simp),fun i h1 h2 => hb.cell_some (h.blank i h1 h2) (by simp),fun j => (hb.frozen (p:=⟨g,j,none⟩) h.lt (by simp)).trans (h.loose j),Nat.lt_of_lt_of_le h.lt hb.size⟩
theorem SRow.made (w : World) (n : Nat) (xs : List (List UInt8)) (t : TypeId) : SRow (w.alloc (.cells (madeCells #[.string ⟨#[]⟩] n) t)) w.heap.size n 0 xs :=
 ⟨fun i _ hi => by omega,fun k _ hk => by rw [World.cell?_alloc_new,made_oneA _ n k hk],fun j => by simp,by simp⟩
theorem SRow.next {w : World} {g n k : Nat} {xs : List (List UInt8)} (h : SRow w g n k xs) (hk : k < n) (x : List UInt8) (hx : xs[k]? = some x) : SRow (w.setCell ⟨g,k,none⟩ (strV x)) g n (k + 1) xs:=by
 rw [setCell_is]
 have hin:=World.cell?_setCells_in g [strV x] k w (fun j hj => by
   obtain rfl : j = 0:=by simpa using hj
   rw [Nat.add_zero,h.blank k (Nat.le_refl _) hk]; rfl) 0 (by simp)
 rw [Nat.add_zero] at hin
 have hout : ∀ i,i ≠ k→(w.setCells g k [strV x]).cell? ⟨g,i,none⟩ = w.cell? ⟨g,i,none⟩:=fun i e => World.cell?_setCells_out g _ _ _ _ (fun _ _ => by simp only [List.length_cons,List.length_nil]; omega)
 refine ⟨fun i y hi hy => ?_,fun i h1 h2 => ?_,fun j => by rw [World.frozen?_setCells]; exact h.loose j,Nat.lt_of_lt_of_le h.lt (but_setCells w g _ k).size⟩
 ·by_cases e : i = k
  ·subst e
   obtain rfl:=Option.some.inj (hx.symm.trans hy)
   exact hin
  ·rw [hout i e]
   exact h.told i y (by omega) hy
 ·rw [hout i (by omega)]
  exact h.blank i (by omega) h2
theorem info_strA : ∃ i,Tryz.prog.info? 9 = some i∧i.zero = some (.string ⟨#[]⟩)∧i.size = 1∧i.bytes = 16:=by
 have h : (Tryz.prog.info? 9).map (fun i => (i.zero,i.size,i.bytes)) = some (some (.string ⟨#[]⟩),1,16):=by kernel_rfl
 cases e : Tryz.prog.info? 9 with
 | none => rw [e] at h; simp at h
 | some i =>
  rw [e] at h
  simp only [Option.map_some,Option.some.injEq,Prod.mk.injEq] at h
  exact ⟨i,rfl,h.1,h.2.1,h.2.2⟩
theorem run_makeS (wx : World) (n : Nat) (h : n < 1000000) : (Instr.makeSlice 92 (.int .i64 (n : Int)) (.int .i64 (n : Int))).run Tryz.prog wx = .ok (.slice (some ⟨wx.heap.size,0,none⟩) n n) (wx.alloc (.cells (madeCells #[.string ⟨#[]⟩] n) 9)):=by
 obtain ⟨ti,hi,hz,hs,hbt⟩:=info_strA
 have hmk:=run_make (P:=Tryz.prog) wx 92 9 ti _ Tryz.underlying92 hi hz .i64 .i64 (n : Int) (n : Int) (by omega) (by omega) (by rw [hbt]; omega) (by omega)
 rw [hs,Int.toNat_natCast,Nat.mul_one] at hmk
 exact hmk
theorem SRow.words {w : World} {g n : Nat} {xs : List (List UInt8)} (h : SRow w g n n xs) (hn : n = xs.length) : WordsAt w (.slice (some ⟨g,0,none⟩) xs.length n) xs :=
 ⟨_,n,rfl,fun i x hx => ⟨g,0,rfl,by rw [Nat.zero_add]; exact h.told i x (by rw [hn]; exact (List.getElem?_eq_some_iff.1 hx).1) hx⟩⟩
set_option maxHeartbeats 16000000 in
set_option maxRecDepth 100000 in
theorem fracWords_any (v : Value) (fs : List Rat) (w : World) (hv : FracsAt w v fs) (hn : fs.length ≤ 1000) (lf : ∀ f ∈ fs,Len f 1) (htab : Lib.TabIs Tryz.prog w "internal/strconv.uint64pow10" .u64 Lib.pow10Tab) :
  Calls Tryz.prog 20 #[v] w fun e w' => e = .returned (strV (jn 32 (fs.map fracT)))∧But [] w w':=by
 obtain ⟨q,cap,rfl,hcap,-⟩:=id hv
 obtain ⟨n,hN⟩ : ∃ n,n = fs.length:=⟨_,rfl⟩
 rw [← hN] at hn hcap ⊢
 rw [← hN] at hv
 have TX : Hid (∀ W v f,But [] w W→f ∈ fs→FracAt W v f→Calls Tryz.prog 25 #[v] W fun e w' => e = .returned (strV (fracT f))∧But [] W w'):=fun W v f hb hf hv =>
  fracText_len v f W hv ((lf f hf).mono (by omega)) (TabIs.but htab hb) ⟨(fracT f).toArray⟩ (by show _ = _; unfold fracT; simp)
 have SJ : Hid (∀ W g,But [] w W→SRow W g n n (fs.map fracT)→Calls Tryz.prog 45 #[.slice (some ⟨g,0,none⟩) n n,.string ⟨#[32]⟩] W fun e w' => e = .returned (strV (jn 32 (fs.map fracT)))∧But [] W w'):=fun W g hb hr => by
  have hl : n = (fs.map fracT).length:=by rw [List.length_map]; exact hN
  have:=strJoin_any g 0 n (fs.map fracT) W (hr.words hl) (by omega) (by omega) hr.lt (by
   have:=jn_short 32 60 (fs.map fracT) (fun x hx => by
    obtain ⟨f,hf,rfl⟩:=List.mem_map.1 hx
    have hlf:=(lf f hf).lt
    rw [Nat.pow_one] at hlf
    exact (fracT_ok f hlf.1 hlf.2).2)
   rw [← hl] at this
   omega)
  rw [← hl] at this
  exact this
 have hmk:=fun wx => run_makeS wx n (by omega)
 have HV:=hide hv
 have HN:=hide hN
 have R0:=hide (SRow.made w n (fs.map fracT) 9)
 have B0 : Hid (But [] w (w.alloc (.cells (madeCells #[.string ⟨#[]⟩] n) 9))):=(But.refl _ _).alloc _
 clear hv hN htab lf
 go_enter Tryz.func20,Tryz.ntmps20
 go_wp2
 have hg : Hid (w.heap.size ≤ w.heap.size):=Nat.le_refl _
 generalize hG : w.heap.size = G at R0 ⊢
 have HG : Hid (w.heap.size ≤ G):=Nat.le_of_eq hG
 generalize w.alloc (.cells (madeCells #[.string ⟨#[]⟩] n) 9) = V0 at *
 clear hG hg hmk
 go_loopw [11] (fun i wr => ∃ k : Nat,k ≤ n∧i = .int .i64 (k : Int)∧Hid (SRow wr G n k (fs.map fracT))∧Hid (But [] w wr)) (fun i _ => n - (intOf i).toNat)
 case atStart => exact ⟨0,Nat.zero_le _,rfl,unhide R0,unhide B0⟩
 case round =>
  obtain ⟨k,hk,rfl,HR,HB⟩:=hrel
  rename World => wr
  clear R0 B0
  by_cases hlt : k < n
  ·have hkr : k < fs.length:=by have:=unhide HN; omega
   have hfs:=(unhide HV).but (unhide HB)
   rcases hfs.open with ⟨er,-⟩ | ⟨-,rb,roff,rcap2,er,-,-⟩
   ·rw [er] at hkr
    simp at hkr
   simp only [Value.slice.injEq] at er
   obtain ⟨rfl,-,rfl⟩:=er
   obtain ⟨sr,xr,yr,pr,⟨r0,r1,r2,r3⟩,hfr⟩:=hfs.get k hlt
   have hge : fs[k]? = some fs[k]:=List.getElem?_eq_getElem hkr
   rw [hge,Option.getD_some] at hfr
   have hmem : fs[k] ∈ fs:=List.getElem_mem hkr
   have hx : (fs.map fracT)[k]? = some (fracT fs[k]):=by rw [List.getElem?_map,hge]; rfl
   obtain ⟨f,hf⟩ : ∃ f,f = fs[k]:=⟨_,rfl⟩
   rw [← hf] at hfr hmem hx
   have bA : But [] wr (wr.alloc (.cells #[.bool sr,.int .u64 xr,.int .u64 yr,.pointer pr] 36)):=(But.refl _ _).alloc _
   have TX1:=hide (unhide TX _ _ f ((unhide HB).trans' bA) hmem (hfr.but bA))
   have BA:=hide bA
   have HX:=hide hx
   clear hfs hfr hge hmem hf bA hx
   go_wp2_with fail
   refine (unhide TX1).mono ?_
   rintro e w3 ⟨rfl,hb3⟩
   have B3:=hide ((unhide BA).trans' hb3)
   have hr3:=(unhide HR).but (unhide B3)
   have R3:=hide hr3
   have c0:=hr3.blank k (Nat.le_refl _) hlt
   have fz:=hr3.loose k
   clear hb3 TX1 BA r0 r1 r2 r3 hr3
   unfold strV
   go_wp2
   have hS:=but_setCells w3 G [strV (fracT f)] k
   refine ⟨⟨k + 1,by omega,by go_num,(unhide R3).next hlt _ (unhide HX),((unhide HB).trans' (unhide B3)).trans hS (fun x hx => by simp at hx; subst hx; exact .inr (unhide HG))⟩,by simp [intOf] <;> omega⟩
  ·obtain rfl : k = n:=by omega
   have SJ1:=hide (unhide SJ wr G (unhide HB) (unhide HR))
   clear SJ TX HR
   go_wp2_with fail
   refine (unhide SJ1).mono ?_
   rintro e w3 ⟨rfl,hb3⟩
   have B3:=hide ((unhide HB).trans' hb3)
   clear hb3 SJ1
   go_wp2
   exact bodyPost_ret (v:=strV (jn 32 (fs.map fracT))) (by simp [results,Tryz.results20,go_sem]) rfl ⟨rfl,unhide B3⟩
end Go.Proofs.YtndcigdphgojpaaGreatDoor
