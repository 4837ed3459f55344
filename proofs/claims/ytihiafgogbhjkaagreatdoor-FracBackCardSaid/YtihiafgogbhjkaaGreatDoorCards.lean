/-
  DERIVED. GIVEN WITH THE SEED: THE CARDS: each row of YtihiafgogbhjkaaGreatDoorRows.lean that lists a variable, with what it lists TIED to the program's text (the seventh form; the later family's looks); each row that meets fmt, with fmt's text TOLD by the authors' own Lean function (tested against real Go, not proved from fmt's source: count such statements apart). THE CARD IS WHAT COUNTS. Prove the row's statement (the work); the ties are given (YtihiafgogbhjkaaGreatDoorTie.lean); close each card by the builder's one call (the guide's Derived/Test/ToyasCard.lean, 'card_holds'). Laid BY PROGRAM, IN A SANDBOX (cutbox-door.mjs). By AI agents, Wed Nov 11 2026. No macro, syntax, notation, axiom, sorry.
-/
import Derived.Test.YtihiafgogbhjkaaGreatDoorRows
import GoSem.ClaimSeven
namespace Go.Proofs.YtihiafgogbhjkaaGreatDoor
namespace Rows

/-- THE TIED CARD OF 'tontinelaw.FracSays'. -/
def fracSaysCard : Claim7 := { stood := { row := fracSaysRow, standIns := [], harness := (true, "5ef8e5fd90412caa3542f80456b9da710f1914ca0bb6e581037d16b0d033831b"), looks := true }, kinds := [], alts := [], laidByText := true, laidKinds := [.data, .data, .data, .handle], laidTests := true, laidLooks := .later }
def FracSaysCardSaid : Prop := Claim7.holds Tryz.pinned (.plain (OpenSpec.ofChange fracSaysSpec)) fracSaysCard

/-- THE TIED CARD OF 'tontinelaw.FracParses'. -/
def fracParsesCard : Claim7 := { stood := { row := fracParsesRow, standIns := [], harness := (true, "5ef8e5fd90412caa3542f80456b9da710f1914ca0bb6e581037d16b0d033831b"), looks := true }, kinds := [], alts := [], laidByText := true, laidKinds := [.data, .data, .data, .handle, .data], laidTests := true, laidLooks := .later }
def FracParsesCardSaid : Prop := Claim7.holds Tryz.pinned (.plain (OpenSpec.ofChange fracParsesSpec)) fracParsesCard

/-- THE TIED CARD OF 'tontinelaw.FracNear'. -/
def fracNearCard : Claim7 := { stood := { row := fracNearRow, standIns := [], harness := (true, "5ef8e5fd90412caa3542f80456b9da710f1914ca0bb6e581037d16b0d033831b"), looks := true }, kinds := [], alts := [], laidByText := true, laidKinds := [.data, .data, .data, .handle], laidTests := true, laidLooks := .later }
def FracNearCardSaid : Prop := Claim7.holds Tryz.pinned (.plain (OpenSpec.ofChange fracNearSpec)) fracNearCard

/-- THE TIED CARD OF 'tontinekeep.FracBack'. -/
def fracBackCard : Claim7 := { stood := { row := fracBackRow, standIns := [], harness := (true, "5ef8e5fd90412caa3542f80456b9da710f1914ca0bb6e581037d16b0d033831b"), looks := true }, kinds := [], alts := [], laidByText := true, laidKinds := [.data, .data, .data], laidTests := true, laidLooks := .later }
def FracBackCardSaid : Prop := Claim7.holds Tryz.pinned (.plain (OpenSpec.ofChange fracBackSpec)) fracBackCard

/-- THE TIED CARD OF 'tontinekeep.FracLaws'. -/
def fracLawsCard : Claim7 := { stood := { row := fracLawsRow, standIns := [], harness := (true, "5ef8e5fd90412caa3542f80456b9da710f1914ca0bb6e581037d16b0d033831b"), looks := true }, kinds := [], alts := [], laidByText := true, laidKinds := [.data, .data, .data, .handle], laidTests := true, laidLooks := .later }
def FracLawsCardSaid : Prop := Claim7.holds Tryz.pinned (.plain (OpenSpec.ofChange fracLawsSpec)) fracLawsCard

/-- THE TIED CARD OF 'tontinekeep.FracBest'. -/
def fracBestCard : Claim7 := { stood := { row := fracBestRow, standIns := [], harness := (true, "5ef8e5fd90412caa3542f80456b9da710f1914ca0bb6e581037d16b0d033831b"), looks := true }, kinds := [], alts := [], laidByText := true, laidKinds := [.data, .data, .data], laidTests := true, laidLooks := .later }
def FracBestCardSaid : Prop := Claim7.holds Tryz.pinned (.plain (OpenSpec.ofChange fracBestSpec)) fracBestCard

/-- THE SECOND FORM's CARD OF 'tontinelaw.FracSays'. -/
def fracSaysUptoCard : Claim7 := { stood := { row := fracSaysUptoRow, standIns := [], harness := (true, "5ef8e5fd90412caa3542f80456b9da710f1914ca0bb6e581037d16b0d033831b"), looks := true }, kinds := [], alts := [], laidByText := true, laidKinds := [.data, .data, .data, .handle], laidTests := true, laidLooks := .later }
def FracSaysUptoCardSaid : Prop := Claim7.holds Tryz.pinned (.plain (OpenSpec.upto fracSaysSpec)) fracSaysUptoCard

/-- THE SECOND FORM's CARD OF 'tontinelaw.FracParses'. -/
def fracParsesUptoCard : Claim7 := { stood := { row := fracParsesUptoRow, standIns := [], harness := (true, "5ef8e5fd90412caa3542f80456b9da710f1914ca0bb6e581037d16b0d033831b"), looks := true }, kinds := [], alts := [], laidByText := true, laidKinds := [.data, .data, .data, .handle, .data], laidTests := true, laidLooks := .later }
def FracParsesUptoCardSaid : Prop := Claim7.holds Tryz.pinned (.plain (OpenSpec.upto fracParsesSpec)) fracParsesUptoCard

/-- THE SECOND FORM's CARD OF 'tontinelaw.FracNear'. -/
def fracNearUptoCard : Claim7 := { stood := { row := fracNearUptoRow, standIns := [], harness := (true, "5ef8e5fd90412caa3542f80456b9da710f1914ca0bb6e581037d16b0d033831b"), looks := true }, kinds := [], alts := [], laidByText := true, laidKinds := [.data, .data, .data, .handle], laidTests := true, laidLooks := .later }
def FracNearUptoCardSaid : Prop := Claim7.holds Tryz.pinned (.plain (OpenSpec.upto fracNearSpec)) fracNearUptoCard

/-- THE SECOND FORM's CARD OF 'tontinekeep.FracBack'. -/
def fracBackUptoCard : Claim7 := { stood := { row := fracBackUptoRow, standIns := [], harness := (true, "5ef8e5fd90412caa3542f80456b9da710f1914ca0bb6e581037d16b0d033831b"), looks := true }, kinds := [], alts := [], laidByText := true, laidKinds := [.data, .data, .data], laidTests := true, laidLooks := .later }
def FracBackUptoCardSaid : Prop := Claim7.holds Tryz.pinned (.plain (OpenSpec.upto fracBackSpec)) fracBackUptoCard

/-- THE SECOND FORM's CARD OF 'tontinekeep.FracLaws'. -/
def fracLawsUptoCard : Claim7 := { stood := { row := fracLawsUptoRow, standIns := [], harness := (true, "5ef8e5fd90412caa3542f80456b9da710f1914ca0bb6e581037d16b0d033831b"), looks := true }, kinds := [], alts := [], laidByText := true, laidKinds := [.data, .data, .data, .handle], laidTests := true, laidLooks := .later }
def FracLawsUptoCardSaid : Prop := Claim7.holds Tryz.pinned (.plain (OpenSpec.upto fracLawsSpec)) fracLawsUptoCard

/-- THE SECOND FORM's CARD OF 'tontinekeep.FracBest'. -/
def fracBestUptoCard : Claim7 := { stood := { row := fracBestUptoRow, standIns := [], harness := (true, "5ef8e5fd90412caa3542f80456b9da710f1914ca0bb6e581037d16b0d033831b"), looks := true }, kinds := [], alts := [], laidByText := true, laidKinds := [.data, .data, .data], laidTests := true, laidLooks := .later }
def FracBestUptoCardSaid : Prop := Claim7.holds Tryz.pinned (.plain (OpenSpec.upto fracBestSpec)) fracBestUptoCard
end Rows
end Go.Proofs.YtihiafgogbhjkaaGreatDoor
