/-
  DERIVED. GIVEN WITH THE SEED: THE CARDS: each row of YtnfnphbihgchhaaGreatDoorRows.lean that lists a variable, with what it lists TIED to the program's text (the seventh form; the later family's looks); each row that meets fmt, with fmt's text TOLD by the authors' own Lean function (tested against real Go, not proved from fmt's source: count such statements apart). THE CARD IS WHAT COUNTS. Prove the row's statement (the work); the ties are given (YtnfnphbihgchhaaGreatDoorTie.lean); close each card by the builder's one call (the guide's Derived/Test/ToyasCard.lean, 'card_holds'). Laid BY PROGRAM, IN A SANDBOX (cutbox-door.mjs). By AI agents, Wed Nov 11 2026. No macro, syntax, notation, axiom, sorry.
-/
import Derived.Test.YtnfnphbihgchhaaGreatDoorRows
import GoSem.ClaimSeven
namespace Go.Proofs.YtnfnphbihgchhaaGreatDoor
namespace Rows

/-- THE TIED CARD OF 'tontinekeep.FlowLoan'. -/
def flowLoanCard : Claim7 := { stood := { row := flowLoanRow, standIns := [], harness := (true, "7f646c9c6f4b04c20f5283619508cb9e3119c6c40bef13b4959df37e806e5c60"), looks := false }, kinds := [], alts := [], laidByText := true, laidKinds := [.data, .data, .data], laidTests := true, laidLooks := .later }
def FlowLoanCardSaid : Prop := Claim7.holds Tryz.pinned (.plain (OpenSpec.ofChange flowLoanSpec)) flowLoanCard

/-- THE SECOND FORM's CARD OF 'tontinekeep.FlowLoan'. -/
def flowLoanUptoCard : Claim7 := { stood := { row := flowLoanUptoRow, standIns := [], harness := (true, "7f646c9c6f4b04c20f5283619508cb9e3119c6c40bef13b4959df37e806e5c60"), looks := false }, kinds := [], alts := [], laidByText := true, laidKinds := [.data, .data, .data], laidTests := true, laidLooks := .later }
def FlowLoanUptoCardSaid : Prop := Claim7.holds Tryz.pinned (.plain (OpenSpec.upto flowLoanSpec)) flowLoanUptoCard
end Rows
end Go.Proofs.YtnfnphbihgchhaaGreatDoor
