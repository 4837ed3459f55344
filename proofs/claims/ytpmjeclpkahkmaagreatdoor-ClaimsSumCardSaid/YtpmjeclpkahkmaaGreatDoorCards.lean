/-
  DERIVED. GIVEN WITH THE SEED: THE CARDS: each row of YtpmjeclpkahkmaaGreatDoorRows.lean that lists a variable, with what it lists TIED to the program's text (the seventh form; the later family's looks); each row that meets fmt, with fmt's text TOLD by the authors' own Lean function (tested against real Go, not proved from fmt's source: count such statements apart). THE CARD IS WHAT COUNTS. Prove the row's statement (the work); the ties are given (YtpmjeclpkahkmaaGreatDoorTie.lean); close each card by the builder's one call (the guide's Derived/Test/ToyasCard.lean, 'card_holds'). Laid BY PROGRAM, IN A SANDBOX (cutbox-door.mjs). By AI agents, Wed Nov 11 2026. No macro, syntax, notation, axiom, sorry.
-/
import Derived.Test.YtpmjeclpkahkmaaGreatDoorRows
import GoSem.ClaimSeven
namespace Go.Proofs.YtpmjeclpkahkmaaGreatDoor
namespace Rows

/-- THE TIED CARD OF 'tontinelaw.FracNear'. -/
def fracNearCard : Claim7 := { stood := { row := fracNearRow, standIns := [], harness := (true, "e74db9aa44692380f32e191ce5aa7080389c462da2c44860d6b042154b7d400f"), looks := true }, kinds := [], alts := [], laidByText := true, laidKinds := [.data, .data, .data, .handle], laidTests := true, laidLooks := .later }
def FracNearCardSaid : Prop := Claim7.holds Tryz.pinned (.plain (OpenSpec.ofChange fracNearSpec)) fracNearCard

/-- THE TIED CARD OF 'tontinelaw.ClaimsSum'. -/
def claimsSumCard : Claim7 := { stood := { row := claimsSumRow, standIns := [], harness := (true, "e74db9aa44692380f32e191ce5aa7080389c462da2c44860d6b042154b7d400f"), looks := true }, kinds := [], alts := [], laidByText := true, laidKinds := [.data, .data, .data, .handle], laidTests := true, laidLooks := .later }
def ClaimsSumCardSaid : Prop := Claim7.holds Tryz.pinned (.plain (OpenSpec.ofChange claimsSumSpec)) claimsSumCard

/-- THE TIED CARD OF 'tontinelaw.TableSays'. -/
def tableSaysCard : Claim7 := { stood := { row := tableSaysRow, standIns := [], harness := (true, "e74db9aa44692380f32e191ce5aa7080389c462da2c44860d6b042154b7d400f"), looks := true }, kinds := [], alts := [], laidByText := true, laidKinds := [.data, .data, .data, .handle], laidTests := true, laidLooks := .later }
def TableSaysCardSaid : Prop := Claim7.holds Tryz.pinned (.plain (OpenSpec.ofChange tableSaysSpec)) tableSaysCard

/-- THE TIED CARD OF 'tontinelaw.ChainSays'. -/
def chainSaysCard : Claim7 := { stood := { row := chainSaysRow, standIns := [], harness := (true, "e74db9aa44692380f32e191ce5aa7080389c462da2c44860d6b042154b7d400f"), looks := true }, kinds := [], alts := [], laidByText := true, laidKinds := [.data, .data, .data, .handle], laidTests := true, laidLooks := .later }
def ChainSaysCardSaid : Prop := Claim7.holds Tryz.pinned (.plain (OpenSpec.ofChange chainSaysSpec)) chainSaysCard

/-- THE TIED CARD OF 'tontinelaw.TriangleSays'. -/
def triangleSaysCard : Claim7 := { stood := { row := triangleSaysRow, standIns := [], harness := (true, "e74db9aa44692380f32e191ce5aa7080389c462da2c44860d6b042154b7d400f"), looks := true }, kinds := [], alts := [], laidByText := true, laidKinds := [.data, .data, .data, .handle], laidTests := true, laidLooks := .later }
def TriangleSaysCardSaid : Prop := Claim7.holds Tryz.pinned (.plain (OpenSpec.ofChange triangleSaysSpec)) triangleSaysCard

/-- THE TIED CARD OF 'tontinelaw.TreatyWrites'. -/
def treatyWritesCard : Claim7 := { stood := { row := treatyWritesRow, standIns := [], harness := (true, "e74db9aa44692380f32e191ce5aa7080389c462da2c44860d6b042154b7d400f"), looks := true }, kinds := [], alts := [], laidByText := true, laidKinds := [.data, .data, .data, .data, .handle, .data, .pinned], laidTests := true, laidLooks := .later }
def TreatyWritesCardSaid : Prop := Claim7.holds Tryz.pinned (.plain (OpenSpec.ofChange treatyWritesSpec)) treatyWritesCard

/-- THE SECOND FORM's CARD OF 'tontinelaw.FracNear'. -/
def fracNearUptoCard : Claim7 := { stood := { row := fracNearUptoRow, standIns := [], harness := (true, "e74db9aa44692380f32e191ce5aa7080389c462da2c44860d6b042154b7d400f"), looks := true }, kinds := [], alts := [], laidByText := true, laidKinds := [.data, .data, .data, .handle], laidTests := true, laidLooks := .later }
def FracNearUptoCardSaid : Prop := Claim7.holds Tryz.pinned (.plain (OpenSpec.upto fracNearSpec)) fracNearUptoCard

/-- THE SECOND FORM's CARD OF 'tontinelaw.ClaimsSum'. -/
def claimsSumUptoCard : Claim7 := { stood := { row := claimsSumUptoRow, standIns := [], harness := (true, "e74db9aa44692380f32e191ce5aa7080389c462da2c44860d6b042154b7d400f"), looks := true }, kinds := [], alts := [], laidByText := true, laidKinds := [.data, .data, .data, .handle], laidTests := true, laidLooks := .later }
def ClaimsSumUptoCardSaid : Prop := Claim7.holds Tryz.pinned (.plain (OpenSpec.upto claimsSumSpec)) claimsSumUptoCard

/-- THE SECOND FORM's CARD OF 'tontinelaw.TableSays'. -/
def tableSaysUptoCard : Claim7 := { stood := { row := tableSaysUptoRow, standIns := [], harness := (true, "e74db9aa44692380f32e191ce5aa7080389c462da2c44860d6b042154b7d400f"), looks := true }, kinds := [], alts := [], laidByText := true, laidKinds := [.data, .data, .data, .handle], laidTests := true, laidLooks := .later }
def TableSaysUptoCardSaid : Prop := Claim7.holds Tryz.pinned (.plain (OpenSpec.upto tableSaysSpec)) tableSaysUptoCard

/-- THE SECOND FORM's CARD OF 'tontinelaw.ChainSays'. -/
def chainSaysUptoCard : Claim7 := { stood := { row := chainSaysUptoRow, standIns := [], harness := (true, "e74db9aa44692380f32e191ce5aa7080389c462da2c44860d6b042154b7d400f"), looks := true }, kinds := [], alts := [], laidByText := true, laidKinds := [.data, .data, .data, .handle], laidTests := true, laidLooks := .later }
def ChainSaysUptoCardSaid : Prop := Claim7.holds Tryz.pinned (.plain (OpenSpec.upto chainSaysSpec)) chainSaysUptoCard

/-- THE SECOND FORM's CARD OF 'tontinelaw.TriangleSays'. -/
def triangleSaysUptoCard : Claim7 := { stood := { row := triangleSaysUptoRow, standIns := [], harness := (true, "e74db9aa44692380f32e191ce5aa7080389c462da2c44860d6b042154b7d400f"), looks := true }, kinds := [], alts := [], laidByText := true, laidKinds := [.data, .data, .data, .handle], laidTests := true, laidLooks := .later }
def TriangleSaysUptoCardSaid : Prop := Claim7.holds Tryz.pinned (.plain (OpenSpec.upto triangleSaysSpec)) triangleSaysUptoCard

/-- THE SECOND FORM's CARD OF 'tontinelaw.TreatyWrites'. -/
def treatyWritesUptoCard : Claim7 := { stood := { row := treatyWritesUptoRow, standIns := [], harness := (true, "e74db9aa44692380f32e191ce5aa7080389c462da2c44860d6b042154b7d400f"), looks := true }, kinds := [], alts := [], laidByText := true, laidKinds := [.data, .data, .data, .data, .handle, .data, .pinned], laidTests := true, laidLooks := .later }
def TreatyWritesUptoCardSaid : Prop := Claim7.holds Tryz.pinned (.plain (OpenSpec.upto treatyWritesSpec)) treatyWritesUptoCard
end Rows
end Go.Proofs.YtpmjeclpkahkmaaGreatDoor
