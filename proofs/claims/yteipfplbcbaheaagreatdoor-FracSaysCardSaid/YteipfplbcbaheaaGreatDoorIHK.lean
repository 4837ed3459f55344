/- Whether a ratio is a whole number; the l -/
import Derived.Test.YteipfplbcbaheaaGreatDoorIHG
import Derived.Test.YteipfplbcbaheaaGreatDoorIHI
namespace Go.Proofs.YteipfplbcbaheaaGreatDoor
open Go.RowKit
set_option maxHeartbeats 4000000
set_option maxRecDepth 100000
theorem cmpS_small (x y:Int):-1≤cmpS x y∧cmpS x y≤1:=by
 unfold cmpS
 split
 ·omega
 ·split <;> omega
theorem cmpS_one (n:Int):(cmpS n 1==0)=decide (n=1):=by
 unfold cmpS
 by_cases h1:n<1
 ·rw [if_pos h1,decide_eq_false (by omega)];rfl
 ·by_cases h2:n=1
  ·rw [if_neg h1,if_pos h2,decide_eq_true h2];rfl
  ·rw [if_neg h1,if_neg h2,decide_eq_false h2];rfl
theorem ratIsIntU_any (xb:Nat) (x:Int) (nx:Nat) (w:World) (hx:RatAt w xb x (nx:Int)) (hnx:0<nx) (hnxl:(wd 4294967296 nx).length<8388608) :
  Calls Tryz.prog 39 #[.pointer (some ⟨xb,0,none⟩)] w fun e w'=>e=.returned (.bool (decide (nx=1)))∧But [] w w':=by
 have DX:=hide (den_any xb x nx w hx hnx)
 have one:(wd 4294967296 (1:Int).natAbs).length<2147483648:=by
  have:=len_le_two 1 (by omega)
  simpa using Nat.lt_of_le_of_lt this (by omega)
 have CM:=hide (fun W b (h1:IntAt W xb 2 (nx:Int)) (h2:IntAt W b 0 1)=>intCmpU_any xb 2 b 0 (nx:Int) 1 W h1 h2 (by rw [Int.natAbs_natCast];omega) one)
 obtain ⟨c1,c2⟩:=cmpS_small (nx:Int) 1
 have hc:Hid ((cmpS (nx:Int) 1==0)=decide (nx=1)):=by
  show _=_
  rw [cmpS_one]
  exact decide_eq_decide.2 (by omega)
 generalize cmpS (nx:Int) 1=cd at CM c1 c2 hc
 clear one
 go_enter Tryz.func39,Tryz.ntmps39
 go_wp2_with fail
 refine (unhide DX).mono ?_
 rintro e w1 ⟨rfl,hw⟩
 obtain rfl:=hw.symm
 clear hw
 go_wp2_with fail
 refine (newInt_any 1 _ (by omega) (by omega)).mono ?_
 rintro e w2 ⟨rfl,B2,I2,S2⟩
 go_wp2_with fail
 refine (unhide CM _ _ (hx.low.but B2) I2).mono ?_
 rintro e w3 ⟨rfl,q,rfl⟩
 clear CM DX
 go_wp2
 go_ret
 exact ⟨by rw [← unhide hc];rfl,B2.drewN _⟩
theorem ratDenomU_any (xb:Nat) (x:Int) (nx:Nat) (w:World) (hx:RatAt w xb x (nx:Int)) (hnx:0<nx) (hnxl:(wd 4294967296 nx).length<8388608) :
  Calls Tryz.prog 88 #[.pointer (some ⟨xb,0,none⟩)] w fun e w'=>e=.returned (.pointer (some ⟨w.heap.size,0,none⟩))∧But [] w w'∧IntAt w' w.heap.size 0 (nx:Int):=by
 obtain ⟨W0,hW0⟩:∃ W0,W0=w.alloc (.cells #[.bool false,.slice none 0 0] 91):=⟨_,rfl⟩
 have hs:=slot_new w 91
 have hbw:But [] w W0:=by rw [hW0];exact (But.refl _ _).alloc _
 rw [← hW0] at hs
 have hx0:=RatAt.but hx hbw
 have DX:=hide (den_any xb x nx W0 hx0 hnx)
 have hlen:(wd 4294967296 (nx:Int).natAbs).length<2147483648:=by rw [Int.natAbs_natCast];omega
 have ST:=hide (set_any w.heap.size 0 xb 2 (nx:Int) W0 hs hx0.low hlen)
 have HS:=hide hs
 have HW0:=hide hW0
 have HBW:=hide hbw
 clear hW0 hbw hs hx hlen hx0
 go_enter Tryz.func88,Tryz.ntmps88
 go_wp2_with fail
 rw [← unhide HW0]
 refine (unhide DX).mono ?_
 rintro e w1 ⟨rfl,hw⟩
 obtain rfl:=hw.symm
 clear hw
 go_wp2_with fail
 refine (unhide ST).mono ?_
 rintro e w1 ⟨rfl,H1⟩
 have H1':=hide H1
 clear H1 ST DX
 go_wp2
 go_ret
 obtain ⟨w2,v2,hb2,hv2,rfl⟩:=unhide H1'
 have hs2:=(unhide HS).but hb2 (by simp)
 exact ⟨rfl,((unhide HBW).trans' hb2).trans (put_but _ _ _ _ _) (by simp),put_int hs2 _ _ hv2⟩
end Go.Proofs.YteipfplbcbaheaaGreatDoor
