/- A line without what its kind has, as the Go text of package treaty makes it. -/
import Derived.Test.YtjbboicccddhbaaGreatDoorKPF8
namespace Go.Proofs.YtjbboicccddhbaaGreatDoor
open Go.RowKit

set_option maxHeartbeats 8000000 in
set_option maxRecDepth 100000 in
theorem foreign_one (s : Bool) (x y : Int) (p : Option Addr) (fr li ti pr : Int) (to : ByteArray) (w : World) :
  Calls Tryz.prog 165 #[lineV 1 s x y p fr li ti pr to] w fun e w' => e = .returned (lineV 1 false 0 0 none fr li ti pr to)∧But [] w w':=by
 unfold lineV
 go_enter Tryz.func165,Tryz.ntmps165
 go_wp2
 exact bodyPost_ret (v:=lineV 1 false 0 0 none fr li ti pr to) (by simp [results,Tryz.results165,go_sem,lineV]) rfl ⟨rfl,((But.refl _ _).alloc _).alloc _⟩
set_option maxHeartbeats 8000000 in
set_option maxRecDepth 100000 in
theorem foreign_two (s : Bool) (x y : Int) (p : Option Addr) (fr li ti pr : Int) (to : ByteArray) (w : World) :
  Calls Tryz.prog 165 #[lineV 2 s x y p fr li ti pr to] w fun e w' => e = .returned (lineV 2 s x y p fr 0 0 pr to)∧But [] w w':=by
 unfold lineV
 go_enter Tryz.func165,Tryz.ntmps165
 go_wp2
 exact bodyPost_ret (v:=lineV 2 s x y p fr 0 0 pr to) (by simp [results,Tryz.results165,go_sem,lineV]) rfl ⟨rfl,((But.refl _ _).alloc _).alloc _⟩
set_option maxHeartbeats 8000000 in
set_option maxRecDepth 100000 in
theorem foreign_three (s : Bool) (x y : Int) (p : Option Addr) (fr li ti pr : Int) (to : ByteArray) (w : World) :
  Calls Tryz.prog 165 #[lineV 3 s x y p fr li ti pr to] w fun e w' => e = .returned (lineV 3 s x y p 0 0 0 0 to)∧But [] w w':=by
 unfold lineV
 go_enter Tryz.func165,Tryz.ntmps165
 go_wp2
 exact bodyPost_ret (v:=lineV 3 s x y p 0 0 0 0 to) (by simp [results,Tryz.results165,go_sem,lineV]) rfl ⟨rfl,((But.refl _ _).alloc _).alloc _⟩
set_option maxHeartbeats 8000000 in
set_option maxRecDepth 100000 in
theorem foreign_four (s : Bool) (x y : Int) (p : Option Addr) (fr li ti pr : Int) (to : ByteArray) (w : World) :
  Calls Tryz.prog 165 #[lineV 4 s x y p fr li ti pr to] w fun e w' => e = .returned (lineV 4 s x y p 0 0 ti pr to)∧But [] w w':=by
 unfold lineV
 go_enter Tryz.func165,Tryz.ntmps165
 go_wp2
 exact bodyPost_ret (v:=lineV 4 s x y p 0 0 ti pr to) (by simp [results,Tryz.results165,go_sem,lineV]) rfl ⟨rfl,((But.refl _ _).alloc _).alloc _⟩
end Go.Proofs.YtjbboicccddhbaaGreatDoor

namespace Go.Proofs.YtjbboicccddhbaaGreatDoor
open Go.RowKit

set_option maxHeartbeats 8000000 in
set_option maxRecDepth 100000 in
theorem empty_any (kd : Int) (s : Bool) (x y : Int) (p : Option Addr) (fr li ti pr : Int) (to : ByteArray) (f : Rat) (w : World) (hf : FracAt w (.agg #[.bool s,.int .u64 x,.int .u64 y,.pointer p]) f) (b : Bool) (hb : b = decide (f.num = 0∧fr = 0∧li = 0∧ti = 0∧pr = 0)) :
  Calls Tryz.prog 166 #[lineV kd s x y p fr li ti pr to] w fun e w' => e = .returned (.bool b)∧But [] w w':=by
 have SG:=hide (fun W (h : But [] w W) => fracSign_any _ f W (hf.but h))
 have HBB:=hide hb
 clear hf hb
 unfold lineV
 go_enter Tryz.func166,Tryz.ntmps166
 go_wp2_with fail
 refine (unhide SG _ ((But.refl _ _).alloc _)).mono ?_
 rintro e w1 ⟨rfl,hb1⟩
 have B1:=hide (((But.refl [] w).alloc (.cells #[.int .i64 kd,.bool s,.int .u64 x,.int .u64 y,.pointer p,.int .i64 fr,.int .i64 li,.int .i64 ti,.int .i64 pr,.string to] 71)).trans' hb1)
 have c5 : w1.cell? ⟨w.heap.size,5,none⟩ = some (.int .i64 fr):=hb1.cell_some (by simp) (by simp)
 have c6 : w1.cell? ⟨w.heap.size,6,none⟩ = some (.int .i64 li):=hb1.cell_some (by simp) (by simp)
 have c7 : w1.cell? ⟨w.heap.size,7,none⟩ = some (.int .i64 ti):=hb1.cell_some (by simp) (by simp)
 have c8 : w1.cell? ⟨w.heap.size,8,none⟩ = some (.int .i64 pr):=hb1.cell_some (by simp) (by simp)
 generalize w.heap.size = g at c5 c6 c7 c8 ⊢
 clear hb1 SG
 by_cases h0 : f.num = 0
 ·have hs : f.num.sign = 0:=by rw [h0]; rfl
  rw [hs]
  by_cases h1 : fr = 0∧li = 0∧ti = 0∧pr = 0
  ·obtain ⟨rfl,rfl,rfl,rfl⟩:=h1
   obtain rfl : b = true:=by rw [unhide HBB]; exact decide_eq_true ⟨h0,rfl,rfl,rfl,rfl⟩
   go_wp2
   all_goals exact bodyPost_ret (v:=.bool true) (by simp [results,Tryz.results166,go_sem]) rfl ⟨rfl,unhide B1⟩
  ·obtain rfl : b = false:=by rw [unhide HBB]; exact decide_eq_false (fun h => h1 h.2)
   go_wp2
   all_goals exact bodyPost_ret (v:=.bool false) (by simp [results,Tryz.results166,go_sem]; try omega) rfl ⟨rfl,unhide B1⟩
 ·have hs : (f.num.sign == 0) = false:=beq_eq_false_iff_ne.2 (fun h => h0 (Int.sign_eq_zero_iff_zero.1 h))
  obtain rfl : b = false:=by rw [unhide HBB]; exact decide_eq_false (fun h => h0 h.1)
  generalize f.num.sign = sg at *
  go_wp2
  all_goals exact bodyPost_ret (v:=.bool false) (by simp [results,Tryz.results166,go_sem]) rfl ⟨rfl,unhide B1⟩
end Go.Proofs.YtjbboicccddhbaaGreatDoor
