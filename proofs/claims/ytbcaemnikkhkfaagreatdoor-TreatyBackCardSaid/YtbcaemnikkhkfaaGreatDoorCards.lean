/-
  DERIVED. GIVEN WITH THE SEED: THE CARDS: each row of YtbcaemnikkhkfaaGreatDoorRows.lean that lists a variable, with what it lists TIED to the program's text (the seventh form; the later family's looks); each row that meets fmt, with fmt's text TOLD by the authors' own Lean function (tested against real Go, not proved from fmt's source: count such statements apart). THE CARD IS WHAT COUNTS. Prove the row's statement (the work); the ties are given (YtbcaemnikkhkfaaGreatDoorTie.lean); close each card by the builder's one call (the guide's Derived/Test/ToyasCard.lean, 'card_holds'). Laid BY PROGRAM, IN A SANDBOX (cutbox-door.mjs). By AI agents, Wed Nov 11 2026. No macro, syntax, notation, axiom, sorry.
-/
import Derived.Test.YtbcaemnikkhkfaaGreatDoorRows
import GoSem.ClaimSeven
namespace Go.Proofs.YtbcaemnikkhkfaaGreatDoor
namespace Rows

/-- THE TIED CARD OF 'tontinekeep.FracBack'. -/
def fracBackCard : Claim7 := { stood := { row := fracBackRow, standIns := [], harness := (true, "a9f8c2f97afec43a78b550fbaec21047018e971530adbfd70b94f8185a627d8e"), looks := true }, kinds := [], alts := [], laidByText := true, laidKinds := [.data, .data, .data], laidTests := true, laidLooks := .later }
def FracBackCardSaid : Prop := Claim7.holds Tryz.pinned (.plain (OpenSpec.ofChange fracBackSpec)) fracBackCard

/-- THE TIED CARD OF 'tontinekeep.FracBest'. -/
def fracBestCard : Claim7 := { stood := { row := fracBestRow, standIns := [], harness := (true, "a9f8c2f97afec43a78b550fbaec21047018e971530adbfd70b94f8185a627d8e"), looks := true }, kinds := [], alts := [], laidByText := true, laidKinds := [.data, .data, .data], laidTests := true, laidLooks := .later }
def FracBestCardSaid : Prop := Claim7.holds Tryz.pinned (.plain (OpenSpec.ofChange fracBestSpec)) fracBestCard

/-- THE TIED CARD OF 'tontinekeep.TreatyAdds'. -/
def treatyAddsCard : Claim7 := { stood := { row := treatyAddsRow, standIns := [], harness := (true, "a9f8c2f97afec43a78b550fbaec21047018e971530adbfd70b94f8185a627d8e"), looks := true }, kinds := [], alts := [], laidByText := true, laidKinds := [.data, .data, .data, .data, .handle, .sentinel, .sentinel, .data, .pinned], laidTests := true, laidLooks := .later }
def TreatyAddsCardSaid : Prop := Claim7.holds Tryz.pinned (.plain (OpenSpec.ofChange treatyAddsSpec)) treatyAddsCard

/-- THE TIED CARD OF 'tontinekeep.TreatyBack'. -/
def treatyBackCard : Claim7 := { stood := { row := treatyBackRow, standIns := [], harness := (true, "a9f8c2f97afec43a78b550fbaec21047018e971530adbfd70b94f8185a627d8e"), looks := true }, kinds := [], alts := [], laidByText := true, laidKinds := [.data, .data, .data, .data, .handle, .sentinel, .sentinel, .data, .pinned], laidTests := true, laidLooks := .later }
def TreatyBackCardSaid : Prop := Claim7.holds Tryz.pinned (.plain (OpenSpec.ofChange treatyBackSpec)) treatyBackCard

/-- THE TIED CARD OF 'tontinekeep.TriangleBest'. -/
def triangleBestCard : Claim7 := { stood := { row := triangleBestRow, standIns := [], harness := (true, "a9f8c2f97afec43a78b550fbaec21047018e971530adbfd70b94f8185a627d8e"), looks := true }, kinds := [], alts := [], laidByText := true, laidKinds := [.data, .data, .data, .data, .sentinel, .sentinel, .pinned], laidTests := true, laidLooks := .later }
def TriangleBestCardSaid : Prop := Claim7.holds Tryz.pinned (.plain (OpenSpec.ofChange triangleBestSpec)) triangleBestCard

/-- THE TIED CARD OF 'tontinekeep.TriangleBack'. -/
def triangleBackCard : Claim7 := { stood := { row := triangleBackRow, standIns := [], harness := (true, "a9f8c2f97afec43a78b550fbaec21047018e971530adbfd70b94f8185a627d8e"), looks := true }, kinds := [], alts := [], laidByText := true, laidKinds := [.data, .data, .data, .data, .sentinel, .sentinel, .pinned], laidTests := true, laidLooks := .later }
def TriangleBackCardSaid : Prop := Claim7.holds Tryz.pinned (.plain (OpenSpec.ofChange triangleBackSpec)) triangleBackCard

/-- THE SECOND FORM's CARD OF 'tontinekeep.FracBack'. -/
def fracBackUptoCard : Claim7 := { stood := { row := fracBackUptoRow, standIns := [], harness := (true, "a9f8c2f97afec43a78b550fbaec21047018e971530adbfd70b94f8185a627d8e"), looks := true }, kinds := [], alts := [], laidByText := true, laidKinds := [.data, .data, .data], laidTests := true, laidLooks := .later }
def FracBackUptoCardSaid : Prop := Claim7.holds Tryz.pinned (.plain (OpenSpec.upto fracBackSpec)) fracBackUptoCard

/-- THE SECOND FORM's CARD OF 'tontinekeep.FracBest'. -/
def fracBestUptoCard : Claim7 := { stood := { row := fracBestUptoRow, standIns := [], harness := (true, "a9f8c2f97afec43a78b550fbaec21047018e971530adbfd70b94f8185a627d8e"), looks := true }, kinds := [], alts := [], laidByText := true, laidKinds := [.data, .data, .data], laidTests := true, laidLooks := .later }
def FracBestUptoCardSaid : Prop := Claim7.holds Tryz.pinned (.plain (OpenSpec.upto fracBestSpec)) fracBestUptoCard

/-- THE SECOND FORM's CARD OF 'tontinekeep.TreatyAdds'. -/
def treatyAddsUptoCard : Claim7 := { stood := { row := treatyAddsUptoRow, standIns := [], harness := (true, "a9f8c2f97afec43a78b550fbaec21047018e971530adbfd70b94f8185a627d8e"), looks := true }, kinds := [], alts := [], laidByText := true, laidKinds := [.data, .data, .data, .data, .handle, .sentinel, .sentinel, .data, .pinned], laidTests := true, laidLooks := .later }
def TreatyAddsUptoCardSaid : Prop := Claim7.holds Tryz.pinned (.plain (OpenSpec.upto treatyAddsSpec)) treatyAddsUptoCard

/-- THE SECOND FORM's CARD OF 'tontinekeep.TreatyBack'. -/
def treatyBackUptoCard : Claim7 := { stood := { row := treatyBackUptoRow, standIns := [], harness := (true, "a9f8c2f97afec43a78b550fbaec21047018e971530adbfd70b94f8185a627d8e"), looks := true }, kinds := [], alts := [], laidByText := true, laidKinds := [.data, .data, .data, .data, .handle, .sentinel, .sentinel, .data, .pinned], laidTests := true, laidLooks := .later }
def TreatyBackUptoCardSaid : Prop := Claim7.holds Tryz.pinned (.plain (OpenSpec.upto treatyBackSpec)) treatyBackUptoCard

/-- THE SECOND FORM's CARD OF 'tontinekeep.TriangleBest'. -/
def triangleBestUptoCard : Claim7 := { stood := { row := triangleBestUptoRow, standIns := [], harness := (true, "a9f8c2f97afec43a78b550fbaec21047018e971530adbfd70b94f8185a627d8e"), looks := true }, kinds := [], alts := [], laidByText := true, laidKinds := [.data, .data, .data, .data, .sentinel, .sentinel, .pinned], laidTests := true, laidLooks := .later }
def TriangleBestUptoCardSaid : Prop := Claim7.holds Tryz.pinned (.plain (OpenSpec.upto triangleBestSpec)) triangleBestUptoCard

/-- THE SECOND FORM's CARD OF 'tontinekeep.TriangleBack'. -/
def triangleBackUptoCard : Claim7 := { stood := { row := triangleBackUptoRow, standIns := [], harness := (true, "a9f8c2f97afec43a78b550fbaec21047018e971530adbfd70b94f8185a627d8e"), looks := true }, kinds := [], alts := [], laidByText := true, laidKinds := [.data, .data, .data, .data, .sentinel, .sentinel, .pinned], laidTests := true, laidLooks := .later }
def TriangleBackUptoCardSaid : Prop := Claim7.holds Tryz.pinned (.plain (OpenSpec.upto triangleBackSpec)) triangleBackUptoCard
end Rows
end Go.Proofs.YtbcaemnikkhkfaaGreatDoor
