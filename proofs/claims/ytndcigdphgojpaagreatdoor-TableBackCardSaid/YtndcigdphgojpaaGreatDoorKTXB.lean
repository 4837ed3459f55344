/- Which texts may be names, as the Go text of package table tells it. -/
import Derived.Lib.ConvBytes
import Derived.Test.YtndcigdphgojpaaGreatDoorKTN2
namespace Go.Proofs.YtndcigdphgojpaaGreatDoor
open Go.RowKit

def okB (b : Nat) : Prop:=(97 ≤ b∧b ≤ 122) ∨ (48 ≤ b∧b ≤ 57) ∨ b = 45
/-- a name: small letters, digits and lines, from 1 to 20 -/
def NameIs (s : ByteArray) : Prop:=(∀ j,j < s.size→okB (s.data.toList.getD j 0).toNat)∧1 ≤ s.size∧s.size ≤ 20
theorem but_bytes (w : World) (e : TypeId) (s : ByteArray) : But [] w (Lib.bytesWorld w e s) :=
 ⟨rfl,rfl,rfl,by rw [Lib.bytesWorld_size]; omega,fun k hk _ => Lib.bytesWorld_at_old w e s k hk⟩
set_option maxHeartbeats 8000000 in
set_option maxRecDepth 100000 in
theorem tableName_yes (s : ByteArray) (w : World) (hs : NameIs s) :
  Calls Tryz.prog 32 #[.string s] w fun e w' => e = .returned (.bool true)∧But [] w w':=by
 obtain ⟨hall,h1,h2⟩:=hs
 have hcv:=Lib.run_convert_string_bytes (P:=Tryz.prog) w 9 113 5 s Tryz.underlying9 Tryz.underlying113 Tryz.underlying5
 have HC : Hid (∀ j,j < s.size→(Lib.bytesWorld w 5 s).cell? ⟨w.heap.size,j,none⟩ = some (.int .u8 (s.data.toList.getD j 0).toNat)):=fun j hj => Lib.bytesWorld_cell w 5 s j hj
 have HB:=hide (but_bytes w 5 s)
 have HA:=hide hall
 generalize Lib.bytesWorld w 5 s = V at *
 generalize grownCap w s.size 0 5 = gc at *
 generalize hn : s.size = n at *
 generalize w.heap.size = g at HC hcv
 clear hall
 go_enter Tryz.func32,Tryz.ntmps32
 go_wp2
 go_loopw [8] (fun i wr => ∃ k : Nat,k ≤ n∧i = .int .i64 (k : Int)∧wr = V) (fun i _ => n - (intOf i).toNat)
 case atStart => exact ⟨0,Nat.zero_le _,rfl,rfl⟩
 case round =>
  obtain ⟨k,hk,rfl,rfl⟩:=hrel
  by_cases hlt : k < n
  ·have c0:=unhide HC k hlt
   have ho:=unhide HA k hlt
   generalize (s.data.toList.getD k 0).toNat = b at *
   unfold okB at ho
   rcases ho with ⟨o1,o2⟩ | ⟨o1,o2⟩ | rfl
   ·go_wp2
    all_goals exact ⟨⟨k + 1,by omega,by go_num,by first | trivial | rfl⟩,by simp [intOf]; omega⟩
   ·go_wp2
    all_goals exact ⟨⟨k + 1,by omega,by go_num,by first | trivial | rfl⟩,by simp [intOf]; omega⟩
   ·go_wp2
    all_goals exact ⟨⟨k + 1,by omega,by go_num,by first | trivial | rfl⟩,by simp [intOf]; omega⟩
  ·obtain rfl : k = n:=by omega
   have hsz : (s.size : Int) = (k : Int):=by omega
   go_wp2
   all_goals exact bodyPost_ret (v:=.bool true) (by simp [results,Tryz.results32,go_sem]; omega) rfl ⟨rfl,unhide HB⟩
end Go.Proofs.YtndcigdphgojpaaGreatDoor
