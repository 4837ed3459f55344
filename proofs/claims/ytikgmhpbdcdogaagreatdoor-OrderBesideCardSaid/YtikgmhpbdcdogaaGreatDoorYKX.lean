/- Layers, one upon the other, bear all together, in the mean; the worst part is no better than the mean, and than its least: the law, at every row of pairs. -/
import Derived.Test.YtikgmhpbdcdogaaGreatDoorYD1
import Derived.Test.YtikgmhpbdcdogaaGreatDoorYK4
import Derived.Test.YtikgmhpbdcdogaaGreatDoorYKW
import Derived.Test.YtikgmhpbdcdogaaGreatDoorYL1
namespace Go.Proofs.YtikgmhpbdcdogaaGreatDoor
open Go.RowKit

theorem fits_lenK {qs : List (Int × Int)} (hf : ∀ q ∈ qs,Fits q) : ∀ r ∈ qs.map qf,Len r 1:=fun r hr => by
 obtain ⟨q,hq,rfl⟩:=List.mem_map.1 hr
 obtain ⟨-,-,-,h,-⟩:=plainF_at q (hf q hq)
 exact h
theorem plainLaw_any (v : Value) (qs : List (Int × Int)) (w : World) (hq : QsAt w v qs) (hf : ∀ q ∈ qs,Fits q) (hn : qs.length ≤ 1000) :
  Calls Tryz.prog 10 #[v] w fun e w' => ∃ v',e = .returned v'∧FracsAt w' v' (qs.map qf)∧But [] w w':=by
 have FS:=hide (plainFs_any v qs w hq hf hn)
 obtain ⟨a,cap,rfl,-,-⟩:=hq
 clear hf
 go_enter Tryz.func10,Tryz.ntmps10
 go_wp2_with fail
 refine (unhide FS).mono ?_
 rintro e w1 ⟨v',vs,rfl,hh,hb⟩
 have H1:=hide hh
 have B1:=hide hb
 clear hh hb
 go_wp2
 go_ret
 exact ⟨_,rfl,(unhide H1).fracs,unhide B1⟩
end Go.Proofs.YtikgmhpbdcdogaaGreatDoor
