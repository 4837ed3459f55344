/-
  DERIVED. GIVEN WITH THE SEED: THE CARDS: each row of YtollloafckcogaaGreatDoorRows.lean that lists a variable, with what it lists TIED to the program's text (the seventh form; the later family's looks); each row that meets fmt, with fmt's text TOLD by the authors' own Lean function (tested against real Go, not proved from fmt's source: count such statements apart). THE CARD IS WHAT COUNTS. Prove the row's statement (the work); the ties are given (YtollloafckcogaaGreatDoorTie.lean); close each card by the builder's one call (the guide's Derived/Test/ToyasCard.lean, 'card_holds'). Laid BY PROGRAM, IN A SANDBOX (cutbox-door.mjs). By AI agents, Wed Nov 11 2026. No macro, syntax, notation, axiom, sorry.
-/
import Derived.Test.YtollloafckcogaaGreatDoorRows
import GoSem.ClaimSeven
namespace Go.Proofs.YtollloafckcogaaGreatDoor
namespace Rows

/-- THE TIED CARD OF 'tontinelaw.FracNear'. -/
def fracNearCard : Claim7 := { stood := { row := fracNearRow, standIns := [], harness := (true, "ecd234836376cb3bfaea7c9b27eb47ae9985ef5c570e41463d91aad7f5044b02"), looks := true }, kinds := [], alts := [], laidByText := true, laidKinds := [.data, .data, .data, .handle], laidTests := true, laidLooks := .later }
def FracNearCardSaid : Prop := Claim7.holds Tryz.pinned (.plain (OpenSpec.ofChange fracNearSpec)) fracNearCard

/-- THE TIED CARD OF 'tontinelaw.FlowSays'. -/
def flowSaysCard : Claim7 := { stood := { row := flowSaysRow, standIns := [], harness := (true, "ecd234836376cb3bfaea7c9b27eb47ae9985ef5c570e41463d91aad7f5044b02"), looks := true }, kinds := [], alts := [], laidByText := true, laidKinds := [.data, .data, .data, .handle], laidTests := true, laidLooks := .later }
def FlowSaysCardSaid : Prop := Claim7.holds Tryz.pinned (.plain (OpenSpec.ofChange flowSaysSpec)) flowSaysCard

/-- THE TIED CARD OF 'tontinelaw.FlowLoans'. -/
def flowLoansCard : Claim7 := { stood := { row := flowLoansRow, standIns := [], harness := (true, "ecd234836376cb3bfaea7c9b27eb47ae9985ef5c570e41463d91aad7f5044b02"), looks := true }, kinds := [], alts := [], laidByText := true, laidKinds := [.data, .data, .data, .handle], laidTests := true, laidLooks := .later }
def FlowLoansCardSaid : Prop := Claim7.holds Tryz.pinned (.plain (OpenSpec.ofChange flowLoansSpec)) flowLoansCard

/-- THE SECOND FORM's CARD OF 'tontinelaw.FracNear'. -/
def fracNearUptoCard : Claim7 := { stood := { row := fracNearUptoRow, standIns := [], harness := (true, "ecd234836376cb3bfaea7c9b27eb47ae9985ef5c570e41463d91aad7f5044b02"), looks := true }, kinds := [], alts := [], laidByText := true, laidKinds := [.data, .data, .data, .handle], laidTests := true, laidLooks := .later }
def FracNearUptoCardSaid : Prop := Claim7.holds Tryz.pinned (.plain (OpenSpec.upto fracNearSpec)) fracNearUptoCard

/-- THE SECOND FORM's CARD OF 'tontinelaw.FlowSays'. -/
def flowSaysUptoCard : Claim7 := { stood := { row := flowSaysUptoRow, standIns := [], harness := (true, "ecd234836376cb3bfaea7c9b27eb47ae9985ef5c570e41463d91aad7f5044b02"), looks := true }, kinds := [], alts := [], laidByText := true, laidKinds := [.data, .data, .data, .handle], laidTests := true, laidLooks := .later }
def FlowSaysUptoCardSaid : Prop := Claim7.holds Tryz.pinned (.plain (OpenSpec.upto flowSaysSpec)) flowSaysUptoCard

/-- THE SECOND FORM's CARD OF 'tontinelaw.FlowLoans'. -/
def flowLoansUptoCard : Claim7 := { stood := { row := flowLoansUptoRow, standIns := [], harness := (true, "ecd234836376cb3bfaea7c9b27eb47ae9985ef5c570e41463d91aad7f5044b02"), looks := true }, kinds := [], alts := [], laidByText := true, laidKinds := [.data, .data, .data, .handle], laidTests := true, laidLooks := .later }
def FlowLoansUptoCardSaid : Prop := Claim7.holds Tryz.pinned (.plain (OpenSpec.upto flowLoansSpec)) flowLoansUptoCard
end Rows
end Go.Proofs.YtollloafckcogaaGreatDoor
