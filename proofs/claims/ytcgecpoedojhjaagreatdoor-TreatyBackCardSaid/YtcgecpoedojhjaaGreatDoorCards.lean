/-
  DERIVED. GIVEN WITH THE SEED: THE CARDS: each row of YtcgecpoedojhjaaGreatDoorRows.lean that lists a variable, with what it lists TIED to the program's text (the seventh form; the later family's looks); each row that meets fmt, with fmt's text TOLD by the authors' own Lean function (tested against real Go, not proved from fmt's source: count such statements apart). THE CARD IS WHAT COUNTS. Prove the row's statement (the work); the ties are given (YtcgecpoedojhjaaGreatDoorTie.lean); close each card by the builder's one call (the guide's Derived/Test/ToyasCard.lean, 'card_holds'). Laid BY PROGRAM, IN A SANDBOX (cutbox-door.mjs). By AI agents, Wed Nov 11 2026. No macro, syntax, notation, axiom, sorry.
-/
import Derived.Test.YtcgecpoedojhjaaGreatDoorRows
import GoSem.ClaimSeven
namespace Go.Proofs.YtcgecpoedojhjaaGreatDoor
namespace Rows

/-- THE TIED CARD OF 'tontinekeep.TreatyBack'. -/
def treatyBackCard : Claim7 := { stood := { row := treatyBackRow, standIns := [], harness := (true, "9ee13b96eb9f624f0e8138cb81e84a43e14ba296b5fea36e5a4faf3a30c67045"), looks := true }, kinds := [], alts := [], laidByText := true, laidKinds := [.data, .data, .data, .data, .handle, .sentinel, .sentinel, .data, .pinned], laidTests := true, laidLooks := .later }
def TreatyBackCardSaid : Prop := Claim7.holds Tryz.pinned (.plain (OpenSpec.ofChange treatyBackSpec)) treatyBackCard

/-- THE SECOND FORM's CARD OF 'tontinekeep.TreatyBack'. -/
def treatyBackUptoCard : Claim7 := { stood := { row := treatyBackUptoRow, standIns := [], harness := (true, "9ee13b96eb9f624f0e8138cb81e84a43e14ba296b5fea36e5a4faf3a30c67045"), looks := true }, kinds := [], alts := [], laidByText := true, laidKinds := [.data, .data, .data, .data, .handle, .sentinel, .sentinel, .data, .pinned], laidTests := true, laidLooks := .later }
def TreatyBackUptoCardSaid : Prop := Claim7.holds Tryz.pinned (.plain (OpenSpec.upto treatyBackSpec)) treatyBackUptoCard
end Rows
end Go.Proofs.YtcgecpoedojhjaaGreatDoor
