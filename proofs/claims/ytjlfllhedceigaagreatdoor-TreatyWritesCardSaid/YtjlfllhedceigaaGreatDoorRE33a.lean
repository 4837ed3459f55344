/- TreatyWrites: the card, where the row ho -/
import Derived.Test.YtjlfllhedceigaaGreatDoorRE33g
namespace Go.Proofs.YtjlfllhedceigaaGreatDoor
open Go.Proofs.Tryz
open Go.ChangeShapes Go.WideShapes Go.ChangeAt Go.RowKit Go.Joins
set_option linter.unusedVariables false
theorem qgi:OpenClaim.wfByText (OpenSpec.ofChange Rows.treatyWritesSpec) Rows.treatyWritesRow=true:=by kernel_rfl
theorem zxv:Tryz.pinned.checked.prog.mainIs=some ((true,"6b31f2db8978b9d0ab20f25a24dc71044f597f4690077db497425dad01f0a596").fst,(true,"6b31f2db8978b9d0ab20f25a24dc71044f597f4690077db497425dad01f0a596").snd.toList):=by kernel_rfl
theorem zxu:prog.funcNamed "tontine/tontinelaw.TreatyWrites" = some 5:=by kernel_rfl
theorem qgj (h:Rows.TreatyWritesSaid):Rows.TreatyWritesCardSaid :=
 Claim7.holds_tied_plain_at .later [] [.data,.data,.data,.data,.handle,.data,.pinned] true (true,"6b31f2db8978b9d0ab20f25a24dc71044f597f4690077db497425dad01f0a596") true
  h (fun _ h=>by cases h) qgi (fun _ h=>by cases h) treatyWrites_row_tie rfl ⟨rfl,rfl⟩ zxv rfl
  (fun f fn hf hfn=>by
   obtain rfl:f = 5:=Option.some.inj (zxu.symm.trans hf) |>.symm
   obtain rfl:fn=Tryz.f5:=(Option.some.inj (func5.symm.trans hfn)).symm
   exact⟨by kernel_rfl,fun j t ht=>by
    rw[params5] at ht
    rcases j with _ | j
    ·obtain rfl : 41 = t:=by simpa using ht
     exact (show prog.wantsStandIn 41 = false by kernel_rfl)
    ·simp at ht⟩)
  zxw
end Go.Proofs.YtjlfllhedceigaaGreatDoor
