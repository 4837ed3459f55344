/-
  DERIVED. GIVEN WITH THE SEED: THE CARDS: each row of YthlnhheblhapgaaGreatDoorRows.lean that lists a variable, with what it lists TIED to the program's text (the seventh form; the later family's looks); each row that meets fmt, with fmt's text TOLD by the authors' own Lean function (tested against real Go, not proved from fmt's source: count such statements apart). THE CARD IS WHAT COUNTS. Prove the row's statement (the work); the ties are given (YthlnhheblhapgaaGreatDoorTie.lean); close each card by the builder's one call (the guide's Derived/Test/ToyasCard.lean, 'card_holds'). Laid BY PROGRAM, IN A SANDBOX (cutbox-door.mjs). By AI agents, Wed Nov 11 2026. No macro, syntax, notation, axiom, sorry.
-/
import Derived.Test.YthlnhheblhapgaaGreatDoorRows
import GoSem.ClaimSeven
namespace Go.Proofs.YthlnhheblhapgaaGreatDoor
namespace Rows

/-- THE TIED CARD OF 'tontinekeep.ChainMeets'. -/
def chainMeetsCard : Claim7 := { stood := { row := chainMeetsRow, standIns := [], harness := (true, "a68458ada5990ec567d1b02b5973e576566b4c0747d28ad5f3d0a04ce866ff71"), looks := true }, kinds := [], alts := [], laidByText := true, laidKinds := [.data, .data, .data, .handle], laidTests := true, laidLooks := .later }
def ChainMeetsCardSaid : Prop := Claim7.holds Tryz.pinned (.plain (OpenSpec.ofChange chainMeetsSpec)) chainMeetsCard

/-- THE SECOND FORM's CARD OF 'tontinekeep.ChainMeets'. -/
def chainMeetsUptoCard : Claim7 := { stood := { row := chainMeetsUptoRow, standIns := [], harness := (true, "a68458ada5990ec567d1b02b5973e576566b4c0747d28ad5f3d0a04ce866ff71"), looks := true }, kinds := [], alts := [], laidByText := true, laidKinds := [.data, .data, .data, .handle], laidTests := true, laidLooks := .later }
def ChainMeetsUptoCardSaid : Prop := Claim7.holds Tryz.pinned (.plain (OpenSpec.upto chainMeetsSpec)) chainMeetsUptoCard
end Rows
end Go.Proofs.YthlnhheblhapgaaGreatDoor
