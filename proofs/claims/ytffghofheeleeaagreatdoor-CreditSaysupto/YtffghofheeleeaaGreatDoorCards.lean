/-
  DERIVED. GIVEN WITH THE SEED: THE CARDS: each row of YtffghofheeleeaaGreatDoorRows.lean that lists a variable, with what it lists TIED to the program's text (the seventh form; the later family's looks); each row that meets fmt, with fmt's text TOLD by the authors' own Lean function (tested against real Go, not proved from fmt's source: count such statements apart). THE CARD IS WHAT COUNTS. Prove the row's statement (the work); the ties are given (YtffghofheeleeaaGreatDoorTie.lean); close each card by the builder's one call (the guide's Derived/Test/ToyasCard.lean, 'card_holds'). Laid BY PROGRAM, IN A SANDBOX (cutbox-door.mjs). By AI agents, Wed Nov 11 2026. No macro, syntax, notation, axiom, sorry.
-/
import Derived.Test.YtffghofheeleeaaGreatDoorRows
import GoSem.ClaimSeven
namespace Go.Proofs.YtffghofheeleeaaGreatDoor
namespace Rows

/-- THE TIED CARD OF 'tontinelaw.FracNear'. -/
def fracNearCard : Claim7 := { stood := { row := fracNearRow, standIns := [], harness := (true, "bb9be459c00949d529a805c48f836a04e89c244f1ea2bb0e7312d076c5b504a5"), looks := true }, kinds := [], alts := [], laidByText := true, laidKinds := [.data, .data, .data, .handle], laidTests := true, laidLooks := .later }
def FracNearCardSaid : Prop := Claim7.holds Tryz.pinned (.plain (OpenSpec.ofChange fracNearSpec)) fracNearCard

/-- THE TIED CARD OF 'tontinelaw.CreditLines'. -/
def creditLinesCard : Claim7 := { stood := { row := creditLinesRow, standIns := [], harness := (true, "bb9be459c00949d529a805c48f836a04e89c244f1ea2bb0e7312d076c5b504a5"), looks := true }, kinds := [], alts := [], laidByText := true, laidKinds := [.data, .data, .data, .handle], laidTests := true, laidLooks := .later }
def CreditLinesCardSaid : Prop := Claim7.holds Tryz.pinned (.plain (OpenSpec.ofChange creditLinesSpec)) creditLinesCard

/-- THE TIED CARD OF 'tontinelaw.CreditSays'. -/
def creditSaysCard : Claim7 := { stood := { row := creditSaysRow, standIns := [], harness := (true, "bb9be459c00949d529a805c48f836a04e89c244f1ea2bb0e7312d076c5b504a5"), looks := true }, kinds := [], alts := [], laidByText := true, laidKinds := [.data, .data, .data, .handle], laidTests := true, laidLooks := .later }
def CreditSaysCardSaid : Prop := Claim7.holds Tryz.pinned (.plain (OpenSpec.ofChange creditSaysSpec)) creditSaysCard

/-- THE SECOND FORM's CARD OF 'tontinelaw.FracNear'. -/
def fracNearUptoCard : Claim7 := { stood := { row := fracNearUptoRow, standIns := [], harness := (true, "bb9be459c00949d529a805c48f836a04e89c244f1ea2bb0e7312d076c5b504a5"), looks := true }, kinds := [], alts := [], laidByText := true, laidKinds := [.data, .data, .data, .handle], laidTests := true, laidLooks := .later }
def FracNearUptoCardSaid : Prop := Claim7.holds Tryz.pinned (.plain (OpenSpec.upto fracNearSpec)) fracNearUptoCard

/-- THE SECOND FORM's CARD OF 'tontinelaw.CreditLines'. -/
def creditLinesUptoCard : Claim7 := { stood := { row := creditLinesUptoRow, standIns := [], harness := (true, "bb9be459c00949d529a805c48f836a04e89c244f1ea2bb0e7312d076c5b504a5"), looks := true }, kinds := [], alts := [], laidByText := true, laidKinds := [.data, .data, .data, .handle], laidTests := true, laidLooks := .later }
def CreditLinesUptoCardSaid : Prop := Claim7.holds Tryz.pinned (.plain (OpenSpec.upto creditLinesSpec)) creditLinesUptoCard

/-- THE SECOND FORM's CARD OF 'tontinelaw.CreditSays'. -/
def creditSaysUptoCard : Claim7 := { stood := { row := creditSaysUptoRow, standIns := [], harness := (true, "bb9be459c00949d529a805c48f836a04e89c244f1ea2bb0e7312d076c5b504a5"), looks := true }, kinds := [], alts := [], laidByText := true, laidKinds := [.data, .data, .data, .handle], laidTests := true, laidLooks := .later }
def CreditSaysUptoCardSaid : Prop := Claim7.holds Tryz.pinned (.plain (OpenSpec.upto creditSaysSpec)) creditSaysUptoCard
end Rows
end Go.Proofs.YtffghofheeleeaaGreatDoor
