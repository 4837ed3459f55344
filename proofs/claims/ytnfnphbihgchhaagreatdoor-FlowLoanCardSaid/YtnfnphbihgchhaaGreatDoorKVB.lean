/- The law FlowLoan: what holds between two rounds of its loop. -/
import Derived.Laws.OwnMore
import Derived.Test.YtnfnphbihgchhaaGreatDoorKL1
import Derived.Test.YtnfnphbihgchhaaGreatDoorKV8
namespace Go.Proofs.YtnfnphbihgchhaaGreatDoor
open Go.RowKit

/-- payments so far: none now, then so many -/
def payVs (z v : Value) (k : Nat) : List Value := z :: List.replicate k v
theorem payVs_succ (z v : Value) (k : Nat) : payVs z v (k + 1) = payVs z v k ++ [v] := by
  unfold payVs
  rw [List.replicate_succ', List.cons_append]
structure LawI (w wr : World) (B g2 g5 g8 gp : Nat) (a1 a2 : Int) (s : Bool) (x y : Int) (p : Option Addr) (pay : Rat) (rs : List Rat) (z : Value) (k : Nat) (o : Value) : Prop where
  but : But [] w wr
  q0 : wr.cell? ⟨g2, 0, none⟩ = some (.int .i64 a1)
  q1 : wr.cell? ⟨g2, 1, none⟩ = some (.int .i64 a2)
  c5 : P4 wr g5 s x y p
  f5 : FracAt wr (.agg #[.bool s, .int .u64 x, .int .u64 y, .pointer p]) pay
  b8 : BoxAt wr g8 (leftR pay rs 0 - leftR pay rs k)
  parts : Parts wr gp rs.length rs.length (intR pay rs) (backR pay rs) (fun i => leftR pay rs (i + 1))
  own : wr.ownsRow B 28 4 o (k + 1) (parts4 (payVs z (.agg #[.bool s, .int .u64 x, .int .u64 y, .pointer p]) k))
  size : B ≤ wr.heap.size
theorem LawI.on {w wr W : World} {B g2 g5 g8 gp : Nat} {a1 a2 : Int} {s : Bool} {x y : Int} {p : Option Addr} {pay : Rat} {rs : List Rat} {z : Value} {k : Nat} {o : Value} (h : LawI w wr B g2 g5 g8 gp a1 a2 s x y p pay rs z k o) (hb : But [] wr W) (hp : gp < B) : LawI w W B g2 g5 g8 gp a1 a2 s x y p pay rs z k o :=
  ⟨h.but.trans' hb, hb.cell_some h.q0 (by simp), hb.cell_some h.q1 (by simp), h.c5.but hb (by simp), h.f5.but hb, h.b8.but hb, h.parts.but hb (by have := h.size; omega), ownsRow_but h.own hb, Nat.le_trans h.size hb.size⟩
/-- what is paid back is added up -/
theorem LawI.back {w wr w1 : World} {B g2 g5 g8 gp : Nat} {a1 a2 : Int} {s : Bool} {x y : Int} {p : Option Addr} {pay : Rat} {rs : List Rat} {z : Value} {k : Nat} {o : Value} (h : LawI w wr B g2 g5 g8 gp a1 a2 s x y p pay rs z k o) (hb : But [] wr w1) (o1 : w.heap.size ≤ g2) (o2 : g2 < g5) (o3 : g5 < g8) (o4 : gp < g5) (o5 : g8 < B) (_o6 : gp ≠ g2) {s' : Bool} {x' y' : Int} {p' : Option Addr} {f : Rat} (hf : FracAt w1 (.agg #[.bool s', .int .u64 x', .int .u64 y', .pointer p']) f) :
    But [] w (put4 w1 g8 s' x' y' p') ∧ BoxAt (put4 w1 g8 s' x' y' p') g8 f ∧ (put4 w1 g8 s' x' y' p').cell? ⟨g2, 0, none⟩ = some (.int .i64 a1) ∧ (put4 w1 g8 s' x' y' p').cell? ⟨g2, 1, none⟩ = some (.int .i64 a2) ∧ P4 (put4 w1 g8 s' x' y' p') g5 s x y p ∧ FracAt (put4 w1 g8 s' x' y' p') (.agg #[.bool s, .int .u64 x, .int .u64 y, .pointer p]) pay ∧ Parts (put4 w1 g8 s' x' y' p') gp rs.length rs.length (intR pay rs) (backR pay rs) (fun i => leftR pay rs (i + 1)) ∧ (put4 w1 g8 s' x' y' p').ownsRow B 28 4 o (k + 1) (parts4 (payVs z (.agg #[.bool s, .int .u64 x, .int .u64 y, .pointer p]) k)) ∧ B ≤ (put4 w1 g8 s' x' y' p').heap.size := by
  have h1 := h.on hb (by omega)
  have hP := put4_but w1 g8 s' x' y' p'
  obtain ⟨c8, hc8⟩ := h1.b8.bool
  have hc : ∀ g ∈ [g8], ∃ s, w1.cell? ⟨g, 0, none⟩ = some (.bool s) := fun g hg => by simp at hg; subst hg; exact ⟨_, hc8⟩
  have hsz := h1.size
  refine ⟨h1.but.trans hP (fun x hx => by simp at hx; subst hx; exact .inr (by omega)), h1.b8.put hf, hP.cell_some h1.q0 (by simp; omega), hP.cell_some h1.q1 (by simp; omega), h1.c5.but hP (by simp; omega), h1.f5.over hc8 hP, h1.parts.beside hP (by omega) (by simp; omega) hc, ?_, Nat.le_trans hsz hP.size⟩
  refine h1.own.kept (row := some g8) ⟨hP.os, hP.tape, hP.output, hP.size, fun j hj hn => hP.block j hj (by simpa using hn)⟩ ?_
  by_cases e : o.ownBlock = none
  · exact .inl e
  · refine .inr (fun e2 => ?_)
    have := (h1.own.lt g8 e2).1
    omega
/-- a payment is appended -/
theorem LawI.next {w V w' : World} {B g2 g5 g8 gp : Nat} {a1 a2 : Int} {s : Bool} {x y : Int} {p : Option Addr} {pay : Rat} {rs : List Rat} {z : Value} {k : Nat} {o o' : Value} (hbut : But [] w V) (h8 : BoxAt V g8 (leftR pay rs 0 - leftR pay rs (k + 1))) (q0 : V.cell? ⟨g2, 0, none⟩ = some (.int .i64 a1)) (q1 : V.cell? ⟨g2, 1, none⟩ = some (.int .i64 a2)) (c5 : P4 V g5 s x y p) (f5 : FracAt V (.agg #[.bool s, .int .u64 x, .int .u64 y, .pointer p]) pay) (hpa : Parts V gp rs.length rs.length (intR pay rs) (backR pay rs) (fun i => leftR pay rs (i + 1))) (ho : V.ownsRow B 28 4 o (k + 1) (parts4 (payVs z (.agg #[.bool s, .int .u64 x, .int .u64 y, .pointer p]) k))) (hB : B ≤ V.heap.size) (ho' : w'.ownsRow B 28 4 o' (k + 1 + 1) (parts4 (payVs z (.agg #[.bool s, .int .u64 x, .int .u64 y, .pointer p]) k ++ [.agg #[.bool s, .int .u64 x, .int .u64 y, .pointer p]]))) (hg : V.grownBy w' o.ownBlock) (hz : ∃ zs zx zy zp, z = .agg #[.bool zs, .int .u64 zx, .int .u64 zy, .pointer zp]) (o1 : w.heap.size ≤ g2) (o2 : g2 < B) (o3 : g5 < B) (o4 : g8 < B) (o5 : gp < B) : LawI w w' B g2 g5 g8 gp a1 a2 s x y p pay rs z (k + 1) o' := by
  obtain ⟨g, cap, cur, rfl, hBg, -⟩ : ∃ g cap cur, o = .slice (some ⟨g, 0, none⟩) (k + 1) cap ∧ B ≤ g ∧ V.heap[g]? = some (.cells cur 28 (0, 0)) := by
    rcases ho.2 with ⟨-, e⟩ | ⟨g, cap, cur, e, h1, h2, -⟩
    · omega
    · exact ⟨g, cap, cur, e, h1, h2⟩
  have hb : But [g] V w' := ⟨hg.os, hg.tape, hg.output, hg.size, fun j hj hn => hg.block j hj (by simpa [Value.ownBlock] using hn)⟩
  have hbool : ∃ s, V.cell? ⟨g, 0, none⟩ = some (.bool s) := by
    obtain ⟨zs, zx, zy, zp, rfl⟩ := hz
    refine ⟨zs, ?_⟩
    have h0 := ho.cells (g := g) rfl 0 (.bool zs) rfl
    simpa [Addr.add] using h0
  have hc : ∀ g' ∈ [g], ∃ s, V.cell? ⟨g', 0, none⟩ = some (.bool s) := fun g' hg' => by simp at hg'; subst hg'; exact hbool
  obtain ⟨sg, hsg⟩ := hbool
  exact {
    but := hbut.trans hb (fun x hx => by simp at hx; subst hx; exact .inr (by omega))
    q0 := hb.cell_some q0 (by simp; omega)
    q1 := hb.cell_some q1 (by simp; omega)
    c5 := c5.but hb (by simp; omega)
    f5 := f5.over hsg hb
    b8 := h8.beside hb (by simp; omega) hc
    parts := hpa.beside hb (by omega) (by simp; omega) hc
    own := by rw [payVs_succ]; exact ho'
    size := Nat.le_trans hB hb.size }
theorem pay_fracs {w : World} {B : Nat} {zs : Bool} {zx zy : Int} {zp : Option Addr} {s : Bool} {x y : Int} {p : Option Addr} {pay : Rat} {k : Nat} {o : Value} (h : w.ownsRow B 28 4 o (k + 1) (parts4 (payVs (.agg #[.bool zs, .int .u64 zx, .int .u64 zy, .pointer zp]) (.agg #[.bool s, .int .u64 x, .int .u64 y, .pointer p]) k))) (hz : FracAt w (.agg #[.bool zs, .int .u64 zx, .int .u64 zy, .pointer zp]) 0) (hv : FracAt w (.agg #[.bool s, .int .u64 x, .int .u64 y, .pointer p]) pay) : FracsAt w o (0 :: List.replicate k pay) := by
  refine Holds4.fracs (base := B) (e := 28) (vs := payVs (.agg #[.bool zs, .int .u64 zx, .int .u64 zy, .pointer zp]) (.agg #[.bool s, .int .u64 x, .int .u64 y, .pointer p]) k) ⟨by simpa using h, by simp [payVs], fun i f hi => ?_⟩
  unfold payVs
  cases i with
  | zero =>
    simp only [List.getElem?_cons_zero, Option.some.injEq] at hi
    subst hi
    exact ⟨_, _, _, _, rfl, hz⟩
  | succ i =>
    rw [List.getElem?_cons_succ, List.getElem?_replicate] at hi
    split at hi
    · rename_i hik
      obtain rfl := Option.some.inj hi
      exact ⟨_, _, _, _, by rw [List.getElem?_cons_succ, List.getElem?_replicate, if_pos hik], hv⟩
    · simp at hi
end Go.Proofs.YtnfnphbihgchhaaGreatDoor

namespace Go.Proofs.YtnfnphbihgchhaaGreatDoor
open Go.RowKit

theorem TabIs.on {w w' : World} (h : Lib.TabIs Tryz.prog w "internal/strconv.uint64pow10" .u64 Lib.pow10Tab) (hb : But [] w w') : Lib.TabIs Tryz.prog w' "internal/strconv.uint64pow10" .u64 Lib.pow10Tab := TabIs.but h hb
theorem fits_len {qs : List (Int × Int)} (hf : ∀ q ∈ qs, Fits q) : ∀ r ∈ qs.map qf, Len r 1 := fun r hr => by
  obtain ⟨q, hq, rfl⟩ := List.mem_map.1 hr
  obtain ⟨-, -, -, h, -⟩ := plainF_at q (hf q hq)
  exact h
/-- all that is worked out ahead of the walk -/
theorem left_start (d : Rat) (rs : List Rat) (hg : ∀ r ∈ rs, 0 < 1 + r) (h0 : 0 < rs.length) : leftR (d / unitW rs) rs 0 = d := by
  unfold leftR
  have hp := unitW_pos rs hg h0
  have hne : unitW rs ≠ 0 := fun e => by rw [e] at hp; exact Rat.lt_irrefl hp
  rw [List.drop_zero, Rat.div_def, Rat.mul_assoc, Rat.inv_mul_cancel _ hne, Rat.mul_one]
theorem left_end (c : Rat) (rs : List Rat) : leftR c rs rs.length = 0 := by
  unfold leftR
  rw [List.drop_length]
  show c * 0 = 0
  rw [Rat.mul_zero]

set_option maxHeartbeats 4000000 in
set_option maxRecDepth 100000 in
theorem flowLoan_many (a1 a2 : Int) (a : Option Addr) (n c : Nat) (w : World) (hn : 20 < n) :
    Calls Tryz.prog 3 #[.agg #[.int .i64 a1, .int .i64 a2], .slice a n c] w fun e w' => e = .returned (.bool true) ∧ But [] w w' := by
  have h : (20 : Int) < (n : Int) := by omega
  have BA : Hid (But [] w (w.alloc (.cells #[.int .i64 a1, .int .i64 a2] 23))) := (But.refl _ _).alloc _
  go_enter Tryz.func3, Tryz.ntmps3
  go_wp2
  go_ret
  exact ⟨rfl, unhide BA⟩

set_option maxHeartbeats 32000000 in
set_option maxRecDepth 100000 in
theorem flowLoan_few (a1 a2 : Int) (hq : Fits (a1, a2)) (v : Value) (qs : List (Int × Int)) (w : World) (hv : QsAt w v qs) (hf : ∀ q ∈ qs, Fits q) (hn : qs.length ≤ 20) (htab : Lib.TabIs Tryz.prog w "internal/strconv.uint64pow10" .u64 Lib.pow10Tab) :
    Calls Tryz.prog 3 #[.agg #[.int .i64 a1, .int .i64 a2], v] w fun e w' => e = .returned (.bool true) ∧ But [] w w' := by
  obtain ⟨rd, xd, yd, ld, FD, CD⟩ := plainF_at (a1, a2) hq
  obtain ⟨d, hd⟩ : ∃ d, d = qf (a1, a2) := ⟨_, rfl⟩
  rw [← hd] at ld FD
  have PF := hide CD
  have HFD := hide FD
  have FS := hide (fun W (h : But [] w W) => plainFs_any v qs W (hv.but h) hf (by omega))
  have lr := fits_len hf
  obtain ⟨rs, hrs⟩ : ∃ rs, rs = qs.map qf := ⟨_, rfl⟩
  have hlen : rs.length = qs.length := by rw [hrs, List.length_map]
  rw [← hrs] at FS lr
  have LO := hide (fun W v2 (h2 : FracsAt W v2 rs) => loan_any _ v2 d rs W (FD W) h2 ld lr (by omega))
  have HA := hide (fun W (h : But [] w W) => half_any W (TabIs.on htab h))
  obtain ⟨zs, zx, FZ, CZ⟩ := whole_is 0 (by omega) (by omega)
  have WZ := hide CZ
  have HFZ := hide FZ
  have TB := hide htab
  obtain ⟨q, cq, rfl, hcq, -⟩ := id hv
  have LR := hide lr
  have LD := hide ld
  rw [← hlen] at hn FS
  rw [← hlen]
  generalize hnn : rs.length = n at *
  have HLEN : Hid (rs.length = n) := hnn
  clear hd CD FD CZ FZ htab hf hv hlen hrs hnn lr ld hcq hq
  go_enter Tryz.func3, Tryz.ntmps3
  go_wp2_with fail
  obtain ⟨W, hW⟩ : ∃ W, W = w.alloc (.cells #[.int .i64 a1, .int .i64 a2] 23) := ⟨_, rfl⟩
  have q0 : W.cell? ⟨w.heap.size, 0, none⟩ = some (.int .i64 a1) := by rw [hW]; simp
  have q1 : W.cell? ⟨w.heap.size, 1, none⟩ = some (.int .i64 a2) := by rw [hW]; simp
  have HB : Hid (But [] w W) := by show But _ _ _; rw [hW]; exact (But.refl _ _).alloc _
  rw [← hW]
  clear hW
  obtain ⟨g2, hg2⟩ : ∃ g2, g2 = w.heap.size := ⟨_, rfl⟩
  rw [← hg2] at q0 q1
  rw [← hg2]
  have O2 : Hid (w.heap.size ≤ g2) := by show _ ≤ _; omega
  clear hg2
  refine (unhide PF _).mono ?_
  rintro e w1 ⟨rfl, hb1⟩
  replace q0 := hb1.cell_some q0 (by simp)
  replace q1 := hb1.cell_some q1 (by simp)
  replace HB : Hid (But [] w w1) := (unhide HB).trans' hb1
  clear hb1
  go_wp2_with fail
  refine (unhide FS _ (unhide HB)).mono ?_
  rintro e w2 ⟨v2, vs2, rfl, hh2, hb2⟩
  replace q0 := hb2.cell_some q0 (by simp)
  replace q1 := hb2.cell_some q1 (by simp)
  replace HB : Hid (But [] w w2) := (unhide HB).trans' hb2
  have LO2 := hide (unhide LO w2 v2 hh2.fracs)
  clear hb2 hh2 LO
  go_wp2_with fail
  refine (unhide LO2).mono ?_
  rintro e w3 ⟨hb3, hcase⟩
  replace q0 := hb3.cell_some q0 (by simp)
  replace q1 := hb3.cell_some q1 (by simp)
  replace HB : Hid (But [] w w3) := (unhide HB).trans' hb3
  clear hb3 LO2
  rcases hcase with ⟨qe, rfl⟩ | ⟨hpos, hg, s5, x5, y5, p5, gp, rfl, hf5, hpa⟩
  · have BA : Hid (But [] w (w3.alloc (.cells #[.bool false, .int .u64 0, .int .u64 0, .pointer none] 28))) := (unhide HB).alloc _
    go_wp2_with fail
    refine (unhide HA _ (unhide BA)).mono ?_
    rintro e w4 ⟨rfl, hb4⟩
    have HB4 : Hid (But [] w w4) := (unhide BA).trans' hb4
    clear hb4
    go_wp2_with fail
    refine (unhide HA _ (unhide HB4)).mono ?_
    rintro e w5 ⟨rfl, hb5⟩
    have HB5 : Hid (But [] w w5) := (unhide HB4).trans' hb5
    clear hb5
    go_wp2
    go_ret
    exact ⟨rfl, unhide HB5⟩
  · have HG := hide hg
    have HF5 := hide hf5
    have HPA := hide hpa
    obtain ⟨sgp, hgp0⟩ := hpa.bool hpos
    have npg : gp ≠ g2 := fun e => by subst e; rw [q0] at hgp0; simp at hgp0
    have lgp : gp < w3.heap.size := lt_of_cell hgp0
    have lg2 : g2 < w3.heap.size := lt_of_cell q0
    clear hg hf5 hpa hgp0
    have BA : Hid (But [] w3 (w3.alloc (.cells #[.bool s5, .int .u64 x5, .int .u64 y5, .pointer p5] 28))) := (But.refl _ _).alloc _
    have K5 : Hid (P4 (w3.alloc (.cells #[.bool s5, .int .u64 x5, .int .u64 y5, .pointer p5] 28)) w3.heap.size s5 x5 y5 p5) := ⟨by simp, by simp, by simp, by simp⟩
    go_wp2_with fail
    refine (unhide HA _ ((unhide HB).trans' (unhide BA))).mono ?_
    rintro e w4 ⟨rfl, hb4⟩
    have B4 : Hid (But [] w3 w4) := (unhide BA).trans' hb4
    replace K5 : Hid (P4 w4 w3.heap.size s5 x5 y5 p5) := (unhide K5).but hb4 (by simp)
    replace q0 := (unhide B4).cell_some q0 (by simp)
    replace q1 := (unhide B4).cell_some q1 (by simp)
    replace HB : Hid (But [] w w4) := (unhide HB).trans' (unhide B4)
    replace HF5 : Hid (FracAt w4 (.agg #[.bool s5, .int .u64 x5, .int .u64 y5, .pointer p5]) (d / unitW rs)) := (unhide HF5).but (unhide B4)
    replace HPA : Hid (Parts w4 gp n n (intR (d / unitW rs) rs) (backR (d / unitW rs) rs) (fun i => leftR (d / unitW rs) rs (i + 1))) := (unhide HPA).but (unhide B4) lgp
    obtain ⟨g5, hg5⟩ : ∃ g5, g5 = w3.heap.size := ⟨_, rfl⟩
    have og5 : gp < g5 := by omega
    have o25 : g2 < g5 := by omega
    rw [← hg5] at K5
    rw [← hg5]
    clear hb4 BA B4 hg5 lgp lg2
    have l5 : g5 < w4.heap.size := lt_of_cell (unhide K5).1
    go_wp2_with fail
    refine (unhide WZ _).mono ?_
    rintro e w5 ⟨rfl, hb5⟩
    have B5 : Hid (But [] w4 (w5.alloc (.cells #[.bool zs, .int .u64 zx, .int .u64 0, .pointer none] 28))) := hb5.alloc _
    have K8 : Hid (BoxAt (w5.alloc (.cells #[.bool zs, .int .u64 zx, .int .u64 0, .pointer none] 28)) w5.heap.size 0) := BoxAt.new w5 zs zx 0 none 0 _ (unhide HFZ w5)
    have o58 : g5 < w5.heap.size := Nat.lt_of_lt_of_le l5 hb5.size
    clear hb5
    go_wp2_with fail
    obtain ⟨W5, hW5⟩ : ∃ W5, W5 = w5.alloc (.cells #[.bool zs, .int .u64 zx, .int .u64 0, .pointer none] 28) := ⟨_, rfl⟩
    rw [← hW5] at B5 K8
    rw [← hW5]
    obtain ⟨g8, hg8⟩ : ∃ g8, g8 = w5.heap.size := ⟨_, rfl⟩
    rw [← hg8] at K8 o58
    rw [← hg8]
    clear hg8 hW5
    refine (unhide WZ _).mono ?_
    rintro e w6 ⟨rfl, hb6⟩
    have B6 : Hid (But [] w4 w6) := (unhide B5).trans' hb6
    replace K8 : Hid (BoxAt w6 g8 0) := (unhide K8).but hb6
    have l8 : g8 < w6.heap.size := (unhide K8).lt
    clear hb6 B5
    obtain ⟨pay, hpay⟩ : ∃ pay, pay = d / unitW rs := ⟨_, rfl⟩
    rw [← hpay] at HF5 HPA
    have HL0 : Hid (leftR pay rs 0 = d) := by show _ = _; rw [hpay]; exact left_start d rs (unhide HG) (by rw [unhide HLEN]; exact hpos)
    have LC : Hid (Len pay 22) := by
      show Len _ _
      rw [hpay]
      have hW := unitW_pos rs (unhide HG) (by rw [unhide HLEN]; exact hpos)
      exact len_div (unhide LD) (unitW_len rs (unhide HG) (unhide LR) (by rw [unhide HLEN]; exact hn)) (by have := (pos_num (unitW rs)).2 hW; omega) 22 (by omega)
    have LL : Hid (∀ i, Len (leftR pay rs i) 43) := fun i => len_mul (unhide LC) (unitW_len (rs.drop i) (fun r hr => unhide HG r (List.mem_of_mem_drop hr)) (fun r hr => unhide LR r (List.mem_of_mem_drop hr)) (by rw [List.length_drop]; have := unhide HLEN; omega)) 43 (by omega)
    have HCW : Hid (pay * unitW rs = d) := by
      have h := unhide HL0
      unfold leftR at h
      rwa [List.drop_zero] at h
    clear hpay
    have hown : (w6.alloc (.cells #[.bool zs, .int .u64 zx, .int .u64 0, .pointer none] 28)).ownsRow w6.heap.size 28 4 (.slice (some ⟨w6.heap.size, 0, none⟩) 1 1) 1 (parts4 (payVs (.agg #[.bool zs, .int .u64 zx, .int .u64 0, .pointer none]) (.agg #[.bool s5, .int .u64 x5, .int .u64 y5, .pointer p5]) 0)) := World.ownsRow_lit w6 #[.bool zs, .int .u64 zx, .int .u64 0, .pointer none] 1 (Nat.le_refl _) (by unfold maxLen; omega) rfl
    have B7 : But [] w6 (w6.alloc (.cells #[.bool zs, .int .u64 zx, .int .u64 0, .pointer none] 28)) := (But.refl _ _).alloc _
    have HI0 : Hid (LawI w (w6.alloc (.cells #[.bool zs, .int .u64 zx, .int .u64 0, .pointer none] 28)) w6.heap.size g2 g5 g8 gp a1 a2 s5 x5 y5 p5 pay rs (.agg #[.bool zs, .int .u64 zx, .int .u64 0, .pointer none]) 0 (.slice (some ⟨w6.heap.size, 0, none⟩) 1 1)) :=
      ⟨((unhide HB).trans' (unhide B6)).trans' B7, B7.cell_some ((unhide B6).cell_some q0 (by simp)) (by simp), B7.cell_some ((unhide B6).cell_some q1 (by simp)) (by simp), ((unhide K5).but (unhide B6) (by simp)).but B7 (by simp), ((unhide HF5).but (unhide B6)).but B7, by rw [Rat.sub_self]; exact (unhide K8).but B7, by rw [unhide HLEN]; exact ((unhide HPA).but (unhide B6) (by omega)).but B7 (by omega), hown, B7.size⟩
    have O2' : w.heap.size ≤ g2 := unhide O2
    clear hown B7 q0 q1 K5 K8 HF5 HPA HB B6
    go_wp2
    obtain ⟨U, hU⟩ : ∃ U, U = w6.alloc (.cells #[.bool zs, .int .u64 zx, .int .u64 0, .pointer none] 28) := ⟨_, rfl⟩
    obtain ⟨B, hB⟩ : ∃ B, B = w6.heap.size := ⟨_, rfl⟩
    rw [← hU, ← hB] at HI0
    rw [← hB] at l8
    rw [← hU, ← hB]
    clear hU hB
    have hz : ∃ zs' zx' zy' zp', (Value.agg #[.bool zs, .int .u64 zx, .int .u64 0, .pointer none]) = .agg #[.bool zs', .int .u64 zx', .int .u64 zy', .pointer zp'] := ⟨_, _, _, _, rfl⟩
    have HZ := hide hz
    clear hz
    go_loopw [9, 10] (fun o i wr => ∃ k : Nat, k ≤ n ∧ i = .int .i64 (k : Int) ∧ Hid (LawI w wr B g2 g5 g8 gp a1 a2 s5 x5 y5 p5 pay rs (.agg #[.bool zs, .int .u64 zx, .int .u64 0, .pointer none]) k o)) (fun _ i _ => n - (intOf i).toNat)
    case atStart => exact ⟨0, Nat.zero_le _, rfl, unhide HI0⟩
    case round =>
      obtain ⟨k, hk, rfl, HI⟩ := hrel
      rename World => wr
      by_cases hlt : k < n
      · obtain ⟨⟨s1, x1, y1, p1, c1, f1⟩, ⟨s2, x2, y2, p2, c2, f2⟩, -⟩ := (unhide HI).parts.told k (by rw [unhide HLEN]; exact hlt)
        have hkr : k < rs.length := by rw [unhide HLEN]; exact hlt
        have lrk : Len (rs[k]?.getD 0) 1 := by rw [List.getElem?_eq_getElem hkr]; exact unhide LR _ (List.getElem_mem hkr)
        have LI : Len (intR pay rs k) 44 := len_mul lrk (unhide LL k) 44 (by omega)
        have LB : Len (backR pay rs k) 67 := len_sub (unhide LC) LI 67 (by omega)
        have C1 := hide c1
        have C2 := hide c2
        have F2 := hide f2
        have HLB := hide LB
        have AD : Hid (∀ W, But [] wr W → Calls Tryz.prog 10 #[.agg #[.bool s1, .int .u64 x1, .int .u64 y1, .pointer p1], .agg #[.bool s2, .int .u64 x2, .int .u64 y2, .pointer p2]] W fun e w' => ∃ v, e = .returned v ∧ FracAt w' v pay ∧ But [] W w') := fun W h => by
          have := fracAdd_gen 44 67 (by omega) _ _ _ _ W (f1.but h) (f2.but h) LI LB
          rwa [int_back] at this
        have LK : Hid (∀ W, But [] wr W → ∀ v, FracAt W v pay → Calls Tryz.prog 9 #[v, .agg #[.bool s5, .int .u64 x5, .int .u64 y5, .pointer p5]] W fun e w' => e = .returned (.bool true) ∧ But [] W w') := fun W h v hv => like_eq v _ pay W hv ((unhide HI).f5.but h) ((unhide LC).mono (by omega)) (TabIs.on (unhide TB) ((unhide HI).but.trans' h))
        clear c1 f1 c2 f2 lrk LI LB
        go_wp2
        refine year_region 11 _ _ wr gp n k s1 x1 y1 p1 s2 x2 y2 p2 s5 x5 y5 p5 pay (by simp) (by simp [Act.eval]) (by simp [Act.eval]) g5 (by simp [Act.eval]) hlt (by omega) (unhide C1) (unhide C2) (unhide HI).c5 (unhide AD) (unhide LK) ?_
        intro w7 v10 hb7
        have HI7 := hide ((unhide HI).on hb7 (by omega))
        replace C2 : Hid (P4o w7 gp (k * 12 + 4) s2 x2 y2 p2) := (unhide C2).but hb7 (by simp)
        replace F2 : Hid (FracAt w7 (.agg #[.bool s2, .int .u64 x2, .int .u64 y2, .pointer p2]) (backR pay rs k)) := (unhide F2).but hb7
        clear hb7 AD LK C1
        simp only [putted, List.foldl_cons, List.foldl_nil, Act.put, List.setIfInBounds_toArray, List.set_cons_zero, List.set_cons_succ]
        go_wp2
        obtain ⟨⟨s8, x8, y8, p8, c8, f8⟩, z8⟩ := (unhide HI7).b8
        have C8 := hide c8
        have AD : Hid (∀ W, But [] w7 W → Calls Tryz.prog 10 #[.agg #[.bool s8, .int .u64 x8, .int .u64 y8, .pointer p8], .agg #[.bool s2, .int .u64 x2, .int .u64 y2, .pointer p2]] W fun e w' => ∃ v, e = .returned v ∧ FracAt w' v (leftR pay rs 0 - leftR pay rs (k + 1)) ∧ But [] W w') := fun W h => by
          have h1 := fracAdd_gen 87 67 (by omega) _ _ _ _ W (f8.but h) ((unhide F2).but h) (len_sub (unhide LL 0) (unhide LL k) 87 (by omega)) (unhide HLB)
          have h2 := left_next pay rs k hkr (unhide HG)
          rwa [show leftR pay rs 0 - leftR pay rs k + backR pay rs k = leftR pay rs 0 - leftR pay rs (k + 1) from by rw [← h2]; grind] at h1
        refine back_region 13 _ _ w7 gp n k s8 x8 y8 p8 s2 x2 y2 p2 (leftR pay rs 0 - leftR pay rs (k + 1)) g8 (by simp) (by simp [Act.eval]) c8 z8 (by simp [Act.eval]) (by simp [Act.eval]) hlt (by omega) c8 (unhide C2) (unhide AD) ?_
        intro w8 s9 x9 y9 p9 hb8 hf8
        obtain ⟨r1, r2, r3, r4, r5, r6, r7, r8, r9⟩ := (unhide HI7).back hb8 O2' o25 o58 og5 l8 npg hf8
        obtain ⟨V, hV⟩ : ∃ V, V = put4 w8 g8 s9 x9 y9 p9 := ⟨_, rfl⟩
        rw [← hV] at r1 r2 r3 r4 r5 r6 r7 r8 r9
        rw [← hV]
        obtain ⟨a0, a1', a2', a3⟩ := id r5
        have lv5 : g5 < V.heap.size := lt_of_cell a0
        obtain ⟨V2, hV2⟩ : ∃ V2, V2 = V.alloc (.cells #[.bool s5, .int .u64 x5, .int .u64 y5, .pointer p5] 28) := ⟨_, rfl⟩
        have bV : But [] V V2 := by rw [hV2]; exact (But.refl _ _).alloc _
        have cc : P4 V2 V.heap.size s5 x5 y5 p5 := by rw [hV2]; exact ⟨by simp, by simp, by simp, by simp⟩
        have oV := ownsRow_but r8 bV
        obtain ⟨o', w', hr, ho, hgr⟩ := append_frac V2 B u9 (k + 1) _ oV V.heap.size _ _ _ _ cc (by omega) (Nat.le_trans r9 bV.size)
        have HN : Hid (LawI w w' B g2 g5 g8 gp a1 a2 s5 x5 y5 p5 pay rs (.agg #[.bool zs, .int .u64 zx, .int .u64 0, .pointer none]) (k + 1) o') := LawI.next (r1.trans' bV) (r2.but bV) (bV.cell_some r3 (by simp)) (bV.cell_some r4 (by simp)) (r5.but bV (by simp)) (r6.but bV) (r7.but bV (by omega)) oV (Nat.le_trans r9 bV.size) ho hgr (unhide HZ) O2' (by omega) (by omega) l8 (by omega)
        obtain ⟨ua, uc, hu⟩ := ownsRow_form r8
        rw [hV2, hu] at hr
        have HR := hide hr
        clear hV r1 r2 r3 r4 r5 r6 r7 r8 r9 hV2 bV cc oV hr ho hgr c8 f8 z8 AD hb8 hf8 C8 HI7 C2 F2 HLB
        subst hu
        simp only [putted, List.foldl_cons, List.foldl_nil, Act.put, List.setIfInBounds_toArray, List.set_cons_zero, List.set_cons_succ]
        go_wp2_with (at_builtin; refine wpList_app rfl _ _ 35 35 rfl _ _ o' w' rfl rfl (unhide HR) ?_)
        exact ⟨⟨k + 1, by omega, by go_num, unhide HN⟩, by simp [intOf]; omega⟩
      · obtain rfl : k = n := by omega
        obtain ⟨ua, uc, rfl⟩ := ownsRow_form (unhide HI).own
        go_wp2_with fail
        refine (unhide FS _ (unhide HI).but).mono ?_
        rintro e w9 ⟨v9, vs9, rfl, hh9, hb9⟩
        have HI9 := hide ((unhide HI).on hb9 (by omega))
        have VU : Hid (Calls Tryz.prog 11 #[.slice ua (k + 1) uc, v9] w9 fun e w' => ∃ s x y p, e = .returned (.tuple #[.agg #[.bool s, .int .u64 x, .int .u64 y, .pointer p], .nilIface]) ∧ FracAt w' (.agg #[.bool s, .int .u64 x, .int .u64 y, .pointer p]) d ∧ But [] w9 w') := by
          have hp := pay_fracs (unhide HI9).own (unhide HFZ w9) (unhide HI9).f5
          rw [← unhide HLEN] at hp
          have h := value_units _ v9 pay rs w9 hp hh9.fracs (by rw [unhide HLEN]; exact hn) (unhide LC) (unhide LR) (unhide HG)
          rw [unhide HCW, unhide HLEN] at h
          exact h
        clear hh9 hb9 HI FS
        go_wp2_with fail
        refine (unhide VU).mono ?_
        rintro e w10 ⟨s3, x3, y3, p3, rfl, hv3, hb10⟩
        have HI10 := hide ((unhide HI9).on hb10 (by omega))
        have bA : But [] w10 (w10.alloc (.cells #[.bool s3, .int .u64 x3, .int .u64 y3, .pointer p3] 28)) := (But.refl _ _).alloc _
        have HI11 := hide ((unhide HI10).on bA (by omega))
        have C3 : Hid (P4 (w10.alloc (.cells #[.bool s3, .int .u64 x3, .int .u64 y3, .pointer p3] 28)) w10.heap.size s3 x3 y3 p3) := ⟨by simp, by simp, by simp, by simp⟩
        have F3 := hide (hv3.but bA)
        clear hv3 hb10 HI9 VU HI10 bA
        go_wp2
        obtain ⟨W10, hW10⟩ : ∃ W10, W10 = w10.alloc (.cells #[.bool s3, .int .u64 x3, .int .u64 y3, .pointer p3] 28) := ⟨_, rfl⟩
        obtain ⟨g11, hg11⟩ : ∃ g11, g11 = w10.heap.size := ⟨_, rfl⟩
        rw [← hW10] at HI11 C3 F3
        rw [← hg11] at C3
        rw [← hW10, ← hg11]
        clear hW10 hg11
        obtain ⟨m, hm⟩ : ∃ m, k = m + 1 := ⟨k - 1, by omega⟩
        obtain ⟨-, -, ⟨s1, x1, y1, p1, c1, f1⟩⟩ := (unhide HI11).parts.told m (by rw [unhide HLEN]; omega)
        have hl0 : leftR pay rs (m + 1) = 0 := by rw [← hm, ← unhide HLEN]; exact left_end pay rs
        rw [hl0] at f1
        obtain ⟨⟨s2, x2, y2, p2, c2, f2⟩, -⟩ := (unhide HI11).b8
        have hb0 : leftR pay rs 0 - leftR pay rs k = d := by rw [hm, hl0, unhide HL0]; grind
        rw [hb0] at f2
        refine last_region 16 _ _ W10 gp k m q cq a1 a2 s1 x1 y1 p1 s2 x2 y2 p2 s3 x3 y3 p3 rd xd yd none (by simp) (by simp [Act.eval]) (by simp [Act.eval]) (by simp [Act.eval]) g2 g8 g11 (by simp [Act.eval]) (by simp [Act.eval]) (by simp [Act.eval]) hm (by omega) c1 c2 (unhide C3) (unhide HI11).q0 (unhide HI11).q1
          (fun W h => (fracSign_any _ _ W (f1.but h)).mono fun e w' ⟨he, hb⟩ => ⟨he, hb⟩) (unhide PF)
          (fun W h => like_eq _ _ d W (f2.but h) (unhide HFD W) ((unhide LD).mono (by omega)) (TabIs.on (unhide TB) ((unhide HI11).but.trans' h)))
          (fun W h => like_eq _ _ d W ((unhide F3).but h) (unhide HFD W) ((unhide LD).mono (by omega)) (TabIs.on (unhide TB) ((unhide HI11).but.trans' h))) ?_
        intro w12 hb12
        have HF : Hid (But [] w w12) := (unhide HI11).but.trans' hb12
        clear hb12 c1 f1 c2 f2 HI11 C3 F3
        simp only [putted, List.foldl_cons, List.foldl_nil, Act.put, List.setIfInBounds_toArray, List.set_cons_zero, List.set_cons_succ]
        go_wp2
        go_ret
        exact ⟨rfl, unhide HF⟩
theorem flowLoan_any (a1 a2 : Int) (hq : Fits (a1, a2)) (v : Value) (qs : List (Int × Int)) (w : World) (hv : QsAt w v qs) (hf : ∀ q ∈ qs, Fits q) (htab : Lib.TabIs Tryz.prog w "internal/strconv.uint64pow10" .u64 Lib.pow10Tab) :
    Calls Tryz.prog 3 #[.agg #[.int .i64 a1, .int .i64 a2], v] w fun e w' => e = .returned (.bool true) ∧ But [] w w' := by
  rcases Nat.lt_or_ge 20 qs.length with h | h
  · obtain ⟨a, c, rfl, -, -⟩ := id hv
    exact flowLoan_many a1 a2 a qs.length c w h
  · exact flowLoan_few a1 a2 hq v qs w hv hf h htab
end Go.Proofs.YtnfnphbihgchhaaGreatDoor
