/- ClaimsSum: the closed facts of the row.  -/
import Derived.Test.YtpmjeclpkahkmaaGreatDoorVPJ
namespace Go.Proofs.YtpmjeclpkahkmaaGreatDoor
open Go.ChangeShapes Go.WideShapes Go.ChangeAt Go.RowKit Go.Joins
set_option linter.unusedVariables false
theorem qdv:Tryz.pinned.checked.prog.funcNamed Rows.claimsSumRow.func=some 4:=by kernel_rfl
theorem zwc:joinedFacts Tryz.pinned.checked.prog 4 Tryz.f4 Rows.claimsSumSpec Rows.claimsSumRow=true:=by kernel_rfl
theorem qdw:decide (Func.isInstance Tryz.pinned.checked.prog Tryz.f4 Rows.claimsSumRow.origin Rows.claimsSumRow.targs)=true:=by kernel_rfl
theorem qin:decide (Check.packageOf Tryz.f4.name = "main")=false:=by kernel_rfl
end Go.Proofs.YtpmjeclpkahkmaaGreatDoor
