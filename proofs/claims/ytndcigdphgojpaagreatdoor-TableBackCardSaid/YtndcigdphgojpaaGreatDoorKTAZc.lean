/- What a word of a line tells, as the Go text of package treaty hears it. -/
import Derived.Shelf.Strconv.Clone
import Derived.Test.YtndcigdphgojpaaGreatDoorProg
import Derived.Deep.QuietTactic
import Derived.BigQuiet
import Derived.Outline
import Derived.Shelf.Spec.BitsCarry
import Derived.Test.YtndcigdphgojpaaGreatDoorKTT3r
namespace Go.Proofs
open Go.Shelf Go.RowKit
def Tryz.laysM316_ren : Go.Shelf.Ren := ⟨fun | 316 => 65 | n => n, fun | 0 => 0 | 3 => 3 | 4 => 4 | 5 => 5 | 9 => 9 | 37 => 113 | 127 => 154 | n => n, fun | n => n⟩
theorem Tryz.laysM316 : Go.Proofs.LaysM.n316 Tryz.prog Tryz.laysM316_ren := {
  mixed := by kernel_rfl
  f316 := Tryz.func65.trans (congrArg some (by kernel_rfl))
  t0 := Tryz.underlying0
  a0 := Tryz.isAgg0
  z0 := Tryz.sizeOf0
  v0 := Tryz.zeroValue0
  t3 := Tryz.underlying3
  a3 := Tryz.isAgg3
  z3 := Tryz.sizeOf3
  v3 := Tryz.zeroValue3
  t4 := Tryz.underlying4
  a4 := Tryz.isAgg4
  z4 := Tryz.sizeOf4
  v4 := Tryz.zeroValue4
  t5 := Tryz.underlying5
  a5 := Tryz.isAgg5
  z5 := Tryz.sizeOf5
  v5 := Tryz.zeroValue5
  t9 := Tryz.underlying9
  a9 := Tryz.isAgg9
  z9 := Tryz.sizeOf9
  v9 := Tryz.zeroValue9
  t37 := Tryz.underlying113
  a37 := Tryz.isAgg113
  z37 := Tryz.sizeOf113
  v37 := Tryz.zeroValue113
  t127 := Tryz.underlying154
  a127 := Tryz.isAgg154
  z127 := Tryz.sizeOf154
  v127 := Tryz.zeroValue154
  i0 := by kernel_rfl
  i3 := by kernel_rfl
  i4 := by kernel_rfl
  i5 := by kernel_rfl
  i9 := by kernel_rfl
  i37 := by kernel_rfl
  i127 := by kernel_rfl }
end Go.Proofs
namespace Go.Proofs.YtndcigdphgojpaaGreatDoor
open Go.RowKit Go.Shelf
set_option linter.unusedVariables false

theorem strClone_any (s : ByteArray) (hs : s.size ≤ 281474976710656) (w : World) : Calls Tryz.prog 34 #[.string s] w fun e w' => e = .returned (.string s)∧But [] w w':=by
 have CL : Hid (∀ W,Calls Tryz.prog 65 #[.string s] W fun e w' => e = .returned (.string s)∧Below W.heap.size W w'):=fun W => Any.stringslite_Clone Tryz.laysM316 s W hs
 clear hs
 go_enter Tryz.func34,Tryz.ntmps34
 go_wp2_with fail
 refine (unhide CL _).mono ?_
 rintro e w1 ⟨rfl,hb⟩
 have B1:=hide (But.of_below hb)
 clear hb CL
 go_wp2
 exact bodyPost_ret (v:=.string s) (by simp [results,Tryz.results34,go_sem]) rfl ⟨rfl,unhide B1⟩
end Go.Proofs.YtndcigdphgojpaaGreatDoor
