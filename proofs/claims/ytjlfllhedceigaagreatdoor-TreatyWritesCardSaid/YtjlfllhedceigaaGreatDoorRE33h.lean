/- TreatyWrites: the closed facts of the ro -/
import Derived.Test.YtjlfllhedceigaaGreatDoorRT3r
namespace Go.Proofs.YtjlfllhedceigaaGreatDoor
open Go.ChangeShapes Go.WideShapes Go.ChangeAt Go.RowKit Go.Joins
set_option linter.unusedVariables false
theorem zzb:Tryz.pinned.checked.prog.funcNamed Rows.treatyWritesRow.func=some 5:=by kernel_rfl
theorem zry:joinedFacts Tryz.pinned.checked.prog 5 Tryz.f5 Rows.treatyWritesSpec Rows.treatyWritesRow=true:=by kernel_rfl
theorem zzc:decide (Func.isInstance Tryz.pinned.checked.prog Tryz.f5 Rows.treatyWritesRow.origin Rows.treatyWritesRow.targs)=true:=by kernel_rfl
theorem qfi:decide (Check.packageOf Tryz.f5.name = "main")=false:=by kernel_rfl
end Go.Proofs.YtjlfllhedceigaaGreatDoor
