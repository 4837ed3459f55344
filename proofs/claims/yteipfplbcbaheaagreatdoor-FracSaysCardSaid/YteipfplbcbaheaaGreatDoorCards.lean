/-
  DERIVED. GIVEN WITH THE SEED: THE CARDS: each row of YteipfplbcbaheaaGreatDoorRows.lean that lists a variable, with what it lists TIED to the program's text (the seventh form; the later family's looks); each row that meets fmt, with fmt's text TOLD by the authors' own Lean function (tested against real Go, not proved from fmt's source: count such statements apart). THE CARD IS WHAT COUNTS. Prove the row's statement (the work); the ties are given (YteipfplbcbaheaaGreatDoorTie.lean); close each card by the builder's one call (the guide's Derived/Test/ToyasCard.lean, 'card_holds'). Laid BY PROGRAM, IN A SANDBOX (cutbox-door.mjs). By AI agents, Wed Nov 11 2026. No macro, syntax, notation, axiom, sorry.
-/
import Derived.Test.YteipfplbcbaheaaGreatDoorRows
import GoSem.ClaimSeven
namespace Go.Proofs.YteipfplbcbaheaaGreatDoor
namespace Rows

/-- THE TIED CARD OF 'tontinelaw.FracSays'. -/
def fracSaysCard : Claim7 := { stood := { row := fracSaysRow, standIns := [], harness := (true, "8b496009e85896291f5f26ce041e4d8c312d50f37891172a8d16d89e277b0c26"), looks := true }, kinds := [], alts := [], laidByText := true, laidKinds := [.data, .data, .data, .handle], laidTests := true, laidLooks := .later }
def FracSaysCardSaid : Prop := Claim7.holds Tryz.pinned (.plain (OpenSpec.ofChange fracSaysSpec)) fracSaysCard

/-- THE TIED CARD OF 'tontinelaw.FracMakes'. -/
def fracMakesCard : Claim7 := { stood := { row := fracMakesRow, standIns := [], harness := (true, "8b496009e85896291f5f26ce041e4d8c312d50f37891172a8d16d89e277b0c26"), looks := true }, kinds := [], alts := [], laidByText := true, laidKinds := [.data, .data, .data, .handle], laidTests := true, laidLooks := .later }
def FracMakesCardSaid : Prop := Claim7.holds Tryz.pinned (.plain (OpenSpec.ofChange fracMakesSpec)) fracMakesCard

/-- THE TIED CARD OF 'tontinelaw.FracParses'. -/
def fracParsesCard : Claim7 := { stood := { row := fracParsesRow, standIns := [], harness := (true, "8b496009e85896291f5f26ce041e4d8c312d50f37891172a8d16d89e277b0c26"), looks := true }, kinds := [], alts := [], laidByText := true, laidKinds := [.data, .data, .data, .handle, .data], laidTests := true, laidLooks := .later }
def FracParsesCardSaid : Prop := Claim7.holds Tryz.pinned (.plain (OpenSpec.ofChange fracParsesSpec)) fracParsesCard

/-- THE TIED CARD OF 'tontinelaw.FracNear'. -/
def fracNearCard : Claim7 := { stood := { row := fracNearRow, standIns := [], harness := (true, "8b496009e85896291f5f26ce041e4d8c312d50f37891172a8d16d89e277b0c26"), looks := true }, kinds := [], alts := [], laidByText := true, laidKinds := [.data, .data, .data, .handle], laidTests := true, laidLooks := .later }
def FracNearCardSaid : Prop := Claim7.holds Tryz.pinned (.plain (OpenSpec.ofChange fracNearSpec)) fracNearCard

/-- THE TIED CARD OF 'tontinelaw.FracSplits'. -/
def fracSplitsCard : Claim7 := { stood := { row := fracSplitsRow, standIns := [], harness := (true, "8b496009e85896291f5f26ce041e4d8c312d50f37891172a8d16d89e277b0c26"), looks := true }, kinds := [], alts := [], laidByText := true, laidKinds := [.data, .data, .data, .handle], laidTests := true, laidLooks := .later }
def FracSplitsCardSaid : Prop := Claim7.holds Tryz.pinned (.plain (OpenSpec.ofChange fracSplitsSpec)) fracSplitsCard

/-- THE SECOND FORM's CARD OF 'tontinelaw.FracSays'. -/
def fracSaysUptoCard : Claim7 := { stood := { row := fracSaysUptoRow, standIns := [], harness := (true, "8b496009e85896291f5f26ce041e4d8c312d50f37891172a8d16d89e277b0c26"), looks := true }, kinds := [], alts := [], laidByText := true, laidKinds := [.data, .data, .data, .handle], laidTests := true, laidLooks := .later }
def FracSaysUptoCardSaid : Prop := Claim7.holds Tryz.pinned (.plain (OpenSpec.upto fracSaysSpec)) fracSaysUptoCard

/-- THE SECOND FORM's CARD OF 'tontinelaw.FracMakes'. -/
def fracMakesUptoCard : Claim7 := { stood := { row := fracMakesUptoRow, standIns := [], harness := (true, "8b496009e85896291f5f26ce041e4d8c312d50f37891172a8d16d89e277b0c26"), looks := true }, kinds := [], alts := [], laidByText := true, laidKinds := [.data, .data, .data, .handle], laidTests := true, laidLooks := .later }
def FracMakesUptoCardSaid : Prop := Claim7.holds Tryz.pinned (.plain (OpenSpec.upto fracMakesSpec)) fracMakesUptoCard

/-- THE SECOND FORM's CARD OF 'tontinelaw.FracParses'. -/
def fracParsesUptoCard : Claim7 := { stood := { row := fracParsesUptoRow, standIns := [], harness := (true, "8b496009e85896291f5f26ce041e4d8c312d50f37891172a8d16d89e277b0c26"), looks := true }, kinds := [], alts := [], laidByText := true, laidKinds := [.data, .data, .data, .handle, .data], laidTests := true, laidLooks := .later }
def FracParsesUptoCardSaid : Prop := Claim7.holds Tryz.pinned (.plain (OpenSpec.upto fracParsesSpec)) fracParsesUptoCard

/-- THE SECOND FORM's CARD OF 'tontinelaw.FracNear'. -/
def fracNearUptoCard : Claim7 := { stood := { row := fracNearUptoRow, standIns := [], harness := (true, "8b496009e85896291f5f26ce041e4d8c312d50f37891172a8d16d89e277b0c26"), looks := true }, kinds := [], alts := [], laidByText := true, laidKinds := [.data, .data, .data, .handle], laidTests := true, laidLooks := .later }
def FracNearUptoCardSaid : Prop := Claim7.holds Tryz.pinned (.plain (OpenSpec.upto fracNearSpec)) fracNearUptoCard

/-- THE SECOND FORM's CARD OF 'tontinelaw.FracSplits'. -/
def fracSplitsUptoCard : Claim7 := { stood := { row := fracSplitsUptoRow, standIns := [], harness := (true, "8b496009e85896291f5f26ce041e4d8c312d50f37891172a8d16d89e277b0c26"), looks := true }, kinds := [], alts := [], laidByText := true, laidKinds := [.data, .data, .data, .handle], laidTests := true, laidLooks := .later }
def FracSplitsUptoCardSaid : Prop := Claim7.holds Tryz.pinned (.plain (OpenSpec.upto fracSplitsSpec)) fracSplitsUptoCard
end Rows
end Go.Proofs.YteipfplbcbaheaaGreatDoor
