/- ClaimsSum: what the row goes by.  -/
import Derived.Test.YtpmjeclpkahkmaaGreatDoorVPJ
namespace Go.Proofs.YtpmjeclpkahkmaaGreatDoor
open Go.Proofs.Tryz
open Go.ChangeShapes Go.WideShapes Go.ChangeAt Go.RowKit Go.Joins
set_option linter.unusedVariables false
theorem qcm:false=Rows.claimsSumRow.goesBy Tryz.pinned.checked.prog:=by kernel_rfl
theorem qji:OpenClaim.wfByText (OpenSpec.ofChange Rows.claimsSumSpec) Rows.claimsSumRow=true:=by kernel_rfl
theorem qcl:Tryz.pinned.checked.prog.mainIs=some ((true,"e74db9aa44692380f32e191ce5aa7080389c462da2c44860d6b042154b7d400f").fst,(true,"e74db9aa44692380f32e191ce5aa7080389c462da2c44860d6b042154b7d400f").snd.toList):=by kernel_rfl
theorem qck:prog.funcNamed "tontine/tontinelaw.ClaimsSum" = some 4:=by kernel_rfl
theorem qjj (h:Rows.ClaimsSumSaid):Rows.ClaimsSumCardSaid :=
 Claim7.holds_tied_plain_at .later [] [.data,.data,.data,.handle] true (true,"e74db9aa44692380f32e191ce5aa7080389c462da2c44860d6b042154b7d400f") true
  h (fun _ h=>by cases h) qji (fun _ h=>by cases h) claimsSum_row_tie rfl ⟨rfl,rfl⟩ qcl rfl
  (fun f fn hf hfn=>by
   obtain rfl:f = 4:=Option.some.inj (qck.symm.trans hf) |>.symm
   obtain rfl:fn=Tryz.f4:=(Option.some.inj (func4.symm.trans hfn)).symm
   exact⟨by kernel_rfl,fun j t ht=>by
    rw[params4] at ht
    rcases j with _ | _ | _ | j
    ·obtain rfl : 41 = t:=by simpa using ht
     exact (show prog.wantsStandIn 41 = false by kernel_rfl)
    ·obtain rfl : 41 = t:=by simpa using ht
     exact (show prog.wantsStandIn 41 = false by kernel_rfl)
    ·obtain rfl : 3 = t:=by simpa using ht
     exact (show prog.wantsStandIn 3 = false by kernel_rfl)
    ·simp at ht⟩)
  qcm
end Go.Proofs.YtpmjeclpkahkmaaGreatDoor
