/- Rows of texts of the call's own; the ref -/
import Derived.Test.YtffghofheeleeaaGreatDoorKLXqL
import Derived.Test.YtffghofheeleeaaGreatDoorKRLaqL
namespace Go.Proofs.YtffghofheeleeaaGreatDoor
open Go.RowKit
theorem zqy (q:Int × Int) (h:Fits q):(qf q).num*(if q.2=0 then 1 else q.2)=q.1*((qf q).den:Int):=by
 obtain⟨f,r,x,y,-,hf,-⟩:=zet q.1 q.2 h.1 h.2.1 h.2.2.1 h.2.2.2
 rw[← zzd f q hf]
 exact hf
end Go.Proofs.YtffghofheeleeaaGreatDoor
