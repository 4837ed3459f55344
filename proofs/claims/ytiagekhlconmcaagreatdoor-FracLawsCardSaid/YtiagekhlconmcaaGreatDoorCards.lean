/-
  DERIVED. GIVEN WITH THE SEED: THE CARDS: each row of YtiagekhlconmcaaGreatDoorRows.lean that lists a variable, with what it lists TIED to the program's text (the seventh form; the later family's looks); each row that meets fmt, with fmt's text TOLD by the authors' own Lean function (tested against real Go, not proved from fmt's source: count such statements apart). THE CARD IS WHAT COUNTS. Prove the row's statement (the work); the ties are given (YtiagekhlconmcaaGreatDoorTie.lean); close each card by the builder's one call (the guide's Derived/Test/ToyasCard.lean, 'card_holds'). Laid BY PROGRAM, IN A SANDBOX (cutbox-door.mjs). By AI agents, Wed Nov 11 2026. No macro, syntax, notation, axiom, sorry.
-/
import Derived.Test.YtiagekhlconmcaaGreatDoorRows
import GoSem.ClaimSeven
namespace Go.Proofs.YtiagekhlconmcaaGreatDoor
namespace Rows

/-- THE TIED CARD OF 'tontinekeep.FracLaws'. -/
def fracLawsCard : Claim7 := { stood := { row := fracLawsRow, standIns := [], harness := (true, "05b50d734703b7363517759a9a4618c117172c2b32b2c1504935d19470bb887b"), looks := true }, kinds := [], alts := [], laidByText := true, laidKinds := [.data, .data, .data, .handle], laidTests := true, laidLooks := .later }
def FracLawsCardSaid : Prop := Claim7.holds Tryz.pinned (.plain (OpenSpec.ofChange fracLawsSpec)) fracLawsCard

/-- THE SECOND FORM's CARD OF 'tontinekeep.FracLaws'. -/
def fracLawsUptoCard : Claim7 := { stood := { row := fracLawsUptoRow, standIns := [], harness := (true, "05b50d734703b7363517759a9a4618c117172c2b32b2c1504935d19470bb887b"), looks := true }, kinds := [], alts := [], laidByText := true, laidKinds := [.data, .data, .data, .handle], laidTests := true, laidLooks := .later }
def FracLawsUptoCardSaid : Prop := Claim7.holds Tryz.pinned (.plain (OpenSpec.upto fracLawsSpec)) fracLawsUptoCard
end Rows
end Go.Proofs.YtiagekhlconmcaaGreatDoor
