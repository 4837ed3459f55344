/- What rows tell, where they may not be. -/
import Derived.Test.YtloojmaamaambaaGreatDoorKBJI
namespace Go.Proofs.YtloojmaamaambaaGreatDoor
open Go.RowKit

set_option maxHeartbeats 8000000 in
set_option maxRecDepth 100000 in
theorem estimate_err (q : Option Addr) (n cap : Nat) (ls : List (List Rat)) (w : World) (hv : ListsAt w (.slice q n cap) ls) (hN : n = ls.length) (hn : n ≤ 1000) (hl : ∀ i,i < n→(ls[i]?.getD []).length ≤ 1000) (hk : rowE ls ≠ 0) :
  Calls Tryz.prog 43 #[.slice q n cap] w fun e w' => e = .returned (.tuple #[.agg #[.bool false,.int .u64 0,.int .u64 0,.pointer none,.bool false,.int .u64 0,.int .u64 0,.pointer none,.bool false,.int .u64 0,.int .u64 0,.pointer none,.bool false,.int .u64 0,.int .u64 0,.pointer none,.slice none 0 0],.iface 54 (.int .i64 (rowE ls))])∧But [] w w':=by
 have CK:=hide (fun W (h : But [] w W) => checkRows_any q n cap ls W (hv.but h) hN hn hl)
 generalize rowE ls = ce at *
 have x4 : SBox (w.alloc (.cells #[.bool false,.int .u64 0,.int .u64 0,.pointer none,.bool false,.int .u64 0,.int .u64 0,.pointer none,.bool false,.int .u64 0,.int .u64 0,.pointer none,.bool false,.int .u64 0,.int .u64 0,.pointer none,.slice none 0 0] 86)) w.heap.size [.bool false,.int .u64 0,.int .u64 0,.pointer none,.bool false,.int .u64 0,.int .u64 0,.pointer none,.bool false,.int .u64 0,.int .u64 0,.pointer none,.bool false,.int .u64 0,.int .u64 0,.pointer none,.slice none 0 0]:=SBox.new w _ _
 have bA : But [] w (w.alloc (.cells #[.bool false,.int .u64 0,.int .u64 0,.pointer none,.bool false,.int .u64 0,.int .u64 0,.pointer none,.bool false,.int .u64 0,.int .u64 0,.pointer none,.bool false,.int .u64 0,.int .u64 0,.pointer none,.slice none 0 0] 86)):=(But.refl _ _).alloc _
 have X4:=hide x4
 have BA:=hide bA
 have Q2 : Hid (w.heap.size ≤ w.heap.size):=Nat.le_refl _
 clear x4 bA hv hN hl
 go_enter Tryz.func43,Tryz.ntmps43
 go_wp2_with fail
 refine (unhide CK _ (unhide BA)).mono ?_
 rintro e w1 ⟨rfl,hb1⟩
 have B1:=hide ((unhide BA).trans' hb1)
 have X41:=hide ((unhide X4).but hb1 (by simp) (by simp))
 clear hb1 X4 BA CK
 unfold errV
 rw [if_neg hk]
 generalize hg4 : w.heap.size = g4 at *
 obtain ⟨u0,c0⟩:=(unhide X41).some 0 (by simp)
 obtain ⟨u1,c1⟩:=(unhide X41).some 1 (by simp)
 obtain ⟨u2,c2⟩:=(unhide X41).some 2 (by simp)
 obtain ⟨u3,c3⟩:=(unhide X41).some 3 (by simp)
 obtain ⟨u4,c4⟩:=(unhide X41).some 4 (by simp)
 obtain ⟨u5,c5⟩:=(unhide X41).some 5 (by simp)
 obtain ⟨u6,c6⟩:=(unhide X41).some 6 (by simp)
 obtain ⟨u7,c7⟩:=(unhide X41).some 7 (by simp)
 obtain ⟨u8,c8⟩:=(unhide X41).some 8 (by simp)
 obtain ⟨u9,c9⟩:=(unhide X41).some 9 (by simp)
 obtain ⟨u10,c10⟩:=(unhide X41).some 10 (by simp)
 obtain ⟨u11,c11⟩:=(unhide X41).some 11 (by simp)
 obtain ⟨u12,c12⟩:=(unhide X41).some 12 (by simp)
 obtain ⟨u13,c13⟩:=(unhide X41).some 13 (by simp)
 obtain ⟨u14,c14⟩:=(unhide X41).some 14 (by simp)
 obtain ⟨u15,c15⟩:=(unhide X41).some 15 (by simp)
 obtain ⟨u16,c16⟩:=(unhide X41).some 16 (by simp)
 have fz:=(unhide X41).loose
 go_wp2
 have hS:=but_setCells w1 g4 [.bool false,.int .u64 0,.int .u64 0,.pointer none,.bool false,.int .u64 0,.int .u64 0,.pointer none,.bool false,.int .u64 0,.int .u64 0,.pointer none,.bool false,.int .u64 0,.int .u64 0,.pointer none,.slice none 0 0] 0
 have P:=(unhide X41).put (us:=[.bool false,.int .u64 0,.int .u64 0,.pointer none,.bool false,.int .u64 0,.int .u64 0,.pointer none,.bool false,.int .u64 0,.int .u64 0,.pointer none,.bool false,.int .u64 0,.int .u64 0,.pointer none,.slice none 0 0]) rfl
 have m0:=P.cells 0 _ rfl
 have m1:=P.cells 1 _ rfl
 have m2:=P.cells 2 _ rfl
 have m3:=P.cells 3 _ rfl
 have m4:=P.cells 4 _ rfl
 have m5:=P.cells 5 _ rfl
 have m6:=P.cells 6 _ rfl
 have m7:=P.cells 7 _ rfl
 have m8:=P.cells 8 _ rfl
 have m9:=P.cells 9 _ rfl
 have m10:=P.cells 10 _ rfl
 have m11:=P.cells 11 _ rfl
 have m12:=P.cells 12 _ rfl
 have m13:=P.cells 13 _ rfl
 have m14:=P.cells 14 _ rfl
 have m15:=P.cells 15 _ rfl
 have m16:=P.cells 16 _ rfl
 have hF : But [] w (w1.setCells g4 0 [.bool false,.int .u64 0,.int .u64 0,.pointer none,.bool false,.int .u64 0,.int .u64 0,.pointer none,.bool false,.int .u64 0,.int .u64 0,.pointer none,.bool false,.int .u64 0,.int .u64 0,.pointer none,.slice none 0 0]):=(unhide B1).trans hS (fun x hx => by simp at hx; subst hx; exact .inr (by omega))
 change bodyPost _ _ _ _ _ (w1.setCells g4 0 [.bool false,.int .u64 0,.int .u64 0,.pointer none,.bool false,.int .u64 0,.int .u64 0,.pointer none,.bool false,.int .u64 0,.int .u64 0,.pointer none,.bool false,.int .u64 0,.int .u64 0,.pointer none,.slice none 0 0])
 generalize w1.setCells g4 0 [.bool false,.int .u64 0,.int .u64 0,.pointer none,.bool false,.int .u64 0,.int .u64 0,.pointer none,.bool false,.int .u64 0,.int .u64 0,.pointer none,.bool false,.int .u64 0,.int .u64 0,.pointer none,.slice none 0 0] = F at *
 exact bodyPost_ret (v:=.tuple #[.agg #[.bool false,.int .u64 0,.int .u64 0,.pointer none,.bool false,.int .u64 0,.int .u64 0,.pointer none,.bool false,.int .u64 0,.int .u64 0,.pointer none,.bool false,.int .u64 0,.int .u64 0,.pointer none,.slice none 0 0],.iface 54 (.int .i64 ce)]) (by simp [results,Tryz.results43,go_sem,m0,m1,m2,m3,m4,m5,m6,m7,m8,m9,m10,m11,m12,m13,m14,m15,m16]) rfl ⟨rfl,hF⟩
end Go.Proofs.YtloojmaamaambaaGreatDoor
