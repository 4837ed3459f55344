/- TreatyWrites: what the row goes by.  -/
import Derived.Test.YtjlfllhedceigaaGreatDoorRT3r
namespace Go.Proofs.YtjlfllhedceigaaGreatDoor
open Go.ChangeShapes Go.WideShapes Go.ChangeAt Go.RowKit Go.Joins
set_option linter.unusedVariables false
theorem zxw:false=Rows.treatyWritesRow.goesBy Tryz.pinned.checked.prog:=by kernel_rfl
end Go.Proofs.YtjlfllhedceigaaGreatDoor
