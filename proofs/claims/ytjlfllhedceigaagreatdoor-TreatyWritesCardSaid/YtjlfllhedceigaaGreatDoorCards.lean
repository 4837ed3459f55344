/-
  DERIVED. GIVEN WITH THE SEED: THE CARDS: each row of YtjlfllhedceigaaGreatDoorRows.lean that lists a variable, with what it lists TIED to the program's text (the seventh form; the later family's looks); each row that meets fmt, with fmt's text TOLD by the authors' own Lean function (tested against real Go, not proved from fmt's source: count such statements apart). THE CARD IS WHAT COUNTS. Prove the row's statement (the work); the ties are given (YtjlfllhedceigaaGreatDoorTie.lean); close each card by the builder's one call (the guide's Derived/Test/ToyasCard.lean, 'card_holds'). Laid BY PROGRAM, IN A SANDBOX (cutbox-door.mjs). By AI agents, Wed Nov 11 2026. No macro, syntax, notation, axiom, sorry.
-/
import Derived.Test.YtjlfllhedceigaaGreatDoorRows
import GoSem.ClaimSeven
namespace Go.Proofs.YtjlfllhedceigaaGreatDoor
namespace Rows

/-- THE TIED CARD OF 'tontinelaw.FracNear'. -/
def fracNearCard : Claim7 := { stood := { row := fracNearRow, standIns := [], harness := (true, "6b31f2db8978b9d0ab20f25a24dc71044f597f4690077db497425dad01f0a596"), looks := true }, kinds := [], alts := [], laidByText := true, laidKinds := [.data, .data, .data, .handle], laidTests := true, laidLooks := .later }
def FracNearCardSaid : Prop := Claim7.holds Tryz.pinned (.plain (OpenSpec.ofChange fracNearSpec)) fracNearCard

/-- THE TIED CARD OF 'tontinelaw.TreatyApplies'. -/
def treatyAppliesCard : Claim7 := { stood := { row := treatyAppliesRow, standIns := [], harness := (true, "6b31f2db8978b9d0ab20f25a24dc71044f597f4690077db497425dad01f0a596"), looks := true }, kinds := [], alts := [], laidByText := true, laidKinds := [.handle], laidTests := true, laidLooks := .later }
def TreatyAppliesCardSaid : Prop := Claim7.holds Tryz.pinned (.plain (OpenSpec.ofChange treatyAppliesSpec)) treatyAppliesCard

/-- THE TIED CARD OF 'tontinelaw.TreatyWrites'. -/
def treatyWritesCard : Claim7 := { stood := { row := treatyWritesRow, standIns := [], harness := (true, "6b31f2db8978b9d0ab20f25a24dc71044f597f4690077db497425dad01f0a596"), looks := true }, kinds := [], alts := [], laidByText := true, laidKinds := [.data, .data, .data, .data, .handle, .data, .pinned], laidTests := true, laidLooks := .later }
def TreatyWritesCardSaid : Prop := Claim7.holds Tryz.pinned (.plain (OpenSpec.ofChange treatyWritesSpec)) treatyWritesCard

/-- THE TIED CARD OF 'tontinekeep.TreatyBack'. -/
def treatyBackCard : Claim7 := { stood := { row := treatyBackRow, standIns := [], harness := (true, "6b31f2db8978b9d0ab20f25a24dc71044f597f4690077db497425dad01f0a596"), looks := true }, kinds := [], alts := [], laidByText := true, laidKinds := [.data, .data, .data, .data, .handle, .sentinel, .sentinel, .data, .pinned], laidTests := true, laidLooks := .later }
def TreatyBackCardSaid : Prop := Claim7.holds Tryz.pinned (.plain (OpenSpec.ofChange treatyBackSpec)) treatyBackCard

/-- THE TIED CARD OF 'tontinekeep.TriangleBack'. -/
def triangleBackCard : Claim7 := { stood := { row := triangleBackRow, standIns := [], harness := (true, "6b31f2db8978b9d0ab20f25a24dc71044f597f4690077db497425dad01f0a596"), looks := true }, kinds := [], alts := [], laidByText := true, laidKinds := [.data, .data, .data, .data, .sentinel, .sentinel, .pinned], laidTests := true, laidLooks := .later }
def TriangleBackCardSaid : Prop := Claim7.holds Tryz.pinned (.plain (OpenSpec.ofChange triangleBackSpec)) triangleBackCard

/-- THE TIED CARD OF 'tontinelaw.ClaimsSum'. -/
def claimsSumCard : Claim7 := { stood := { row := claimsSumRow, standIns := [], harness := (true, "6b31f2db8978b9d0ab20f25a24dc71044f597f4690077db497425dad01f0a596"), looks := true }, kinds := [], alts := [], laidByText := true, laidKinds := [.data, .data, .data, .handle], laidTests := true, laidLooks := .later }
def ClaimsSumCardSaid : Prop := Claim7.holds Tryz.pinned (.plain (OpenSpec.ofChange claimsSumSpec)) claimsSumCard

/-- THE SECOND FORM's CARD OF 'tontinelaw.FracNear'. -/
def fracNearUptoCard : Claim7 := { stood := { row := fracNearUptoRow, standIns := [], harness := (true, "6b31f2db8978b9d0ab20f25a24dc71044f597f4690077db497425dad01f0a596"), looks := true }, kinds := [], alts := [], laidByText := true, laidKinds := [.data, .data, .data, .handle], laidTests := true, laidLooks := .later }
def FracNearUptoCardSaid : Prop := Claim7.holds Tryz.pinned (.plain (OpenSpec.upto fracNearSpec)) fracNearUptoCard

/-- THE SECOND FORM's CARD OF 'tontinelaw.TreatyApplies'. -/
def treatyAppliesUptoCard : Claim7 := { stood := { row := treatyAppliesUptoRow, standIns := [], harness := (true, "6b31f2db8978b9d0ab20f25a24dc71044f597f4690077db497425dad01f0a596"), looks := true }, kinds := [], alts := [], laidByText := true, laidKinds := [.handle], laidTests := true, laidLooks := .later }
def TreatyAppliesUptoCardSaid : Prop := Claim7.holds Tryz.pinned (.plain (OpenSpec.upto treatyAppliesSpec)) treatyAppliesUptoCard

/-- THE SECOND FORM's CARD OF 'tontinelaw.TreatyWrites'. -/
def treatyWritesUptoCard : Claim7 := { stood := { row := treatyWritesUptoRow, standIns := [], harness := (true, "6b31f2db8978b9d0ab20f25a24dc71044f597f4690077db497425dad01f0a596"), looks := true }, kinds := [], alts := [], laidByText := true, laidKinds := [.data, .data, .data, .data, .handle, .data, .pinned], laidTests := true, laidLooks := .later }
def TreatyWritesUptoCardSaid : Prop := Claim7.holds Tryz.pinned (.plain (OpenSpec.upto treatyWritesSpec)) treatyWritesUptoCard

/-- THE SECOND FORM's CARD OF 'tontinekeep.TreatyBack'. -/
def treatyBackUptoCard : Claim7 := { stood := { row := treatyBackUptoRow, standIns := [], harness := (true, "6b31f2db8978b9d0ab20f25a24dc71044f597f4690077db497425dad01f0a596"), looks := true }, kinds := [], alts := [], laidByText := true, laidKinds := [.data, .data, .data, .data, .handle, .sentinel, .sentinel, .data, .pinned], laidTests := true, laidLooks := .later }
def TreatyBackUptoCardSaid : Prop := Claim7.holds Tryz.pinned (.plain (OpenSpec.upto treatyBackSpec)) treatyBackUptoCard

/-- THE SECOND FORM's CARD OF 'tontinekeep.TriangleBack'. -/
def triangleBackUptoCard : Claim7 := { stood := { row := triangleBackUptoRow, standIns := [], harness := (true, "6b31f2db8978b9d0ab20f25a24dc71044f597f4690077db497425dad01f0a596"), looks := true }, kinds := [], alts := [], laidByText := true, laidKinds := [.data, .data, .data, .data, .sentinel, .sentinel, .pinned], laidTests := true, laidLooks := .later }
def TriangleBackUptoCardSaid : Prop := Claim7.holds Tryz.pinned (.plain (OpenSpec.upto triangleBackSpec)) triangleBackUptoCard

/-- THE SECOND FORM's CARD OF 'tontinelaw.ClaimsSum'. -/
def claimsSumUptoCard : Claim7 := { stood := { row := claimsSumUptoRow, standIns := [], harness := (true, "6b31f2db8978b9d0ab20f25a24dc71044f597f4690077db497425dad01f0a596"), looks := true }, kinds := [], alts := [], laidByText := true, laidKinds := [.data, .data, .data, .handle], laidTests := true, laidLooks := .later }
def ClaimsSumUptoCardSaid : Prop := Claim7.holds Tryz.pinned (.plain (OpenSpec.upto claimsSumSpec)) claimsSumUptoCard
end Rows
end Go.Proofs.YtjlfllhedceigaaGreatDoor
