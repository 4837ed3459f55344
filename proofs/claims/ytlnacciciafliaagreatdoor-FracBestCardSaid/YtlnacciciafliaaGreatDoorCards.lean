/-
  DERIVED. GIVEN WITH THE SEED: THE CARDS: each row of YtlnacciciafliaaGreatDoorRows.lean that lists a variable, with what it lists TIED to the program's text (the seventh form; the later family's looks); each row that meets fmt, with fmt's text TOLD by the authors' own Lean function (tested against real Go, not proved from fmt's source: count such statements apart). THE CARD IS WHAT COUNTS. Prove the row's statement (the work); the ties are given (YtlnacciciafliaaGreatDoorTie.lean); close each card by the builder's one call (the guide's Derived/Test/ToyasCard.lean, 'card_holds'). Laid BY PROGRAM, IN A SANDBOX (cutbox-door.mjs). By AI agents, Wed Nov 11 2026. No macro, syntax, notation, axiom, sorry.
-/
import Derived.Test.YtlnacciciafliaaGreatDoorRows
import GoSem.ClaimSeven
namespace Go.Proofs.YtlnacciciafliaaGreatDoor
namespace Rows

/-- THE TIED CARD OF 'tontinekeep.FracBest'. -/
def fracBestCard : Claim7 := { stood := { row := fracBestRow, standIns := [], harness := (true, "def2b13098f449282122e0194cdd7af62258c8f4de0436e9c4ebc0393924acd2"), looks := false }, kinds := [], alts := [], laidByText := true, laidKinds := [.data, .data, .data], laidTests := true, laidLooks := .later }
def FracBestCardSaid : Prop := Claim7.holds Tryz.pinned (.plain (OpenSpec.ofChange fracBestSpec)) fracBestCard

/-- THE SECOND FORM's CARD OF 'tontinekeep.FracBest'. -/
def fracBestUptoCard : Claim7 := { stood := { row := fracBestUptoRow, standIns := [], harness := (true, "def2b13098f449282122e0194cdd7af62258c8f4de0436e9c4ebc0393924acd2"), looks := false }, kinds := [], alts := [], laidByText := true, laidKinds := [.data, .data, .data], laidTests := true, laidLooks := .later }
def FracBestUptoCardSaid : Prop := Claim7.holds Tryz.pinned (.plain (OpenSpec.upto fracBestSpec)) fracBestUptoCard
end Rows
end Go.Proofs.YtlnacciciafliaaGreatDoor
