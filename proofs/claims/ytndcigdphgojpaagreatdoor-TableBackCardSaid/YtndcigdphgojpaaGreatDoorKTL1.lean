/- Two fractions that are the same, as the Go text of package tontinekeep asks. -/
import Derived.Test.YtndcigdphgojpaaGreatDoorKTL2
namespace Go.Proofs.YtndcigdphgojpaaGreatDoor
open Go.RowKit

set_option maxHeartbeats 8000000 in
set_option maxRecDepth 100000 in
theorem like_len (va vb : Value) (f : Rat) (w : World) (ha : FracAt w va f) (hb : FracAt w vb f) (hl : Len f 1000000) (htab : Lib.TabIs Tryz.prog w "internal/strconv.uint64pow10" .u64 Lib.pow10Tab) :
  Calls Tryz.prog 9 #[va,vb] w fun e w' => e = .returned (.bool true)∧But [] w w':=by
 have hl2 : Len f 33554431:=⟨Nat.le_trans hl.1 (by omega),Nat.le_trans hl.2 (by omega)⟩
 obtain ⟨t,ht⟩ : ∃ t,t = fracTxt (decide (f.num < 0)) f.num.natAbs f.den:=⟨_,rfl⟩
 have CM : Hid (∀ W,But [] w W→Calls Tryz.prog 24 #[va,vb] W fun e w' => e = .returned (.int .i64 0)∧But [] W w'):=fun W h => fracCmp_any va vb f f W (ha.but h) (hb.but h) hl2 hl2 0 (by show _ = _; simp [cmpZ])
 have TA : Hid (∀ W,But [] w W→Calls Tryz.prog 25 #[va] W fun e w' => e = .returned (.string t)∧But [] W w'):=fun W h => fracText_len va f W (ha.but h) hl (TabIs.but htab h) t ht
 have TB : Hid (∀ W,But [] w W→Calls Tryz.prog 25 #[vb] W fun e w' => e = .returned (.string t)∧But [] W w'):=fun W h => fracText_len vb f W (hb.but h) hl (TabIs.but htab h) t ht
 obtain ⟨x1,y1,p1,rfl,-⟩:=ha.agg
 obtain ⟨x2,y2,p2,rfl,-⟩:=hb.agg
 clear ha hb hl hl2 ht htab
 generalize hs : decide (f.num < 0) = s at *
 clear hs
 obtain ⟨W,hW⟩ : ∃ W,W = ((w.alloc (.cells #[.bool s,.int .u64 x1,.int .u64 y1,.pointer p1] 36)).alloc (.cells #[.bool s,.int .u64 x2,.int .u64 y2,.pointer p2] 36)):=⟨_,rfl⟩
 obtain ⟨tA,tB,-,hB⟩:=two_new w W _ _ _ hW
 have a0:=tA 0
 have a1:=tA 1
 have a2:=tA 2
 have a3:=tA 3
 have b0:=tB 0
 have b1:=tB 1
 have b2:=tB 2
 have b3:=tB 3
 simp only [List.getElem?_toArray,List.getElem?_cons_zero,List.getElem?_cons_succ] at a0 a1 a2 a3 b0 b1 b2 b3
 clear tA tB
 have HW:=hide hW
 have HB:=hide hB
 clear hW hB
 go_enter Tryz.func9,Tryz.ntmps9
 go_wp2
 rw [← unhide HW]
 obtain ⟨ga,hga⟩ : ∃ ga,ga = w.heap.size:=⟨_,rfl⟩
 obtain ⟨gb,hgb⟩ : ∃ gb,gb = w.heap.size + 1:=⟨_,rfl⟩
 rw [← hga] at a0 a1 a2 a3
 rw [← hgb] at b0 b1 b2 b3
 rw [← hgb,← hga]
 clear hga hgb HW
 go_region_held (fun w' => w'.cell? ⟨ga,0,none⟩ = some (.bool s)∧w'.cell? ⟨ga,1,none⟩ = some (.int .u64 x1)∧w'.cell? ⟨ga,2,none⟩ = some (.int .u64 y1)∧w'.cell? ⟨ga,3,none⟩ = some (.pointer p1)∧w'.cell? ⟨gb,0,none⟩ = some (.bool s)∧w'.cell? ⟨gb,1,none⟩ = some (.int .u64 x2)∧w'.cell? ⟨gb,2,none⟩ = some (.int .u64 y2)∧w'.cell? ⟨gb,3,none⟩ = some (.pointer p2)) (go_keep) (first
  | (go_at_call 25; have hchk:=B2; clear hchk; refine (unhide TB _ (by first | exact (unhide HB).trans' B2 | exact ((unhide HB).trans' B2).drew)).mono ?_; rintro e w3 ⟨rfl,hc3⟩; have B3 : But [] W w3:=(by first | exact B2.trans' hc3 | exact (B2.drew).trans' hc3); clear hc3; have a0_3:=B3.cell_some a0 (by simp); have a1_3:=B3.cell_some a1 (by simp); have a2_3:=B3.cell_some a2 (by simp); have a3_3:=B3.cell_some a3 (by simp); have b0_3:=B3.cell_some b0 (by simp); have b1_3:=B3.cell_some b1 (by simp); have b2_3:=B3.cell_some b2 (by simp); have b3_3:=B3.cell_some b3 (by simp); clear a0_2 a1_2 a2_2 a3_2 b0_2 b1_2 b2_2 b3_2)
  | (go_at_call 25; have hchk:=B1; clear hchk; refine (unhide TA _ (by first | exact (unhide HB).trans' B1 | exact ((unhide HB).trans' B1).drew)).mono ?_; rintro e w2 ⟨rfl,hc2⟩; have B2 : But [] W w2:=(by first | exact B1.trans' hc2 | exact (B1.drew).trans' hc2); clear hc2; have a0_2:=B2.cell_some a0 (by simp); have a1_2:=B2.cell_some a1 (by simp); have a2_2:=B2.cell_some a2 (by simp); have a3_2:=B2.cell_some a3 (by simp); have b0_2:=B2.cell_some b0 (by simp); have b1_2:=B2.cell_some b1 (by simp); have b2_2:=B2.cell_some b2 (by simp); have b3_2:=B2.cell_some b3 (by simp); clear a0_1 a1_1 a2_1 a3_1 b0_1 b1_1 b2_1 b3_1)
  | (go_at_call 24; refine (unhide CM _ (by first | exact unhide HB | exact (unhide HB).drew)).mono ?_; rintro e w1 ⟨rfl,hc1⟩; have B1 : But [] W w1:=(by first | exact hc1 | exact (But.refl _ _).drew.trans' hc1); clear hc1; have a0_1:=B1.cell_some a0 (by simp); have a1_1:=B1.cell_some a1 (by simp); have a2_1:=B1.cell_some a2 (by simp); have a3_1:=B1.cell_some a3 (by simp); have b0_1:=B1.cell_some b0 (by simp); have b1_1:=B1.cell_some b1 (by simp); have b2_1:=B1.cell_some b2 (by simp); have b3_1:=B1.cell_some b3 (by simp)))
 have HB3 : Hid (But [] w w3):=(unhide HB).trans' B3
 clear B1 B2 B3
 go_wp2
 go_ret
 exact ⟨rfl,unhide HB3⟩
end Go.Proofs.YtndcigdphgojpaaGreatDoor
