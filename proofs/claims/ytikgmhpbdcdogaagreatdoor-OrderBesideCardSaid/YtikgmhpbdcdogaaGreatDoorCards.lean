/-
  DERIVED. GIVEN WITH THE SEED: THE CARDS: each row of YtikgmhpbdcdogaaGreatDoorRows.lean that lists a variable, with what it lists TIED to the program's text (the seventh form; the later family's looks); each row that meets fmt, with fmt's text TOLD by the authors' own Lean function (tested against real Go, not proved from fmt's source: count such statements apart). THE CARD IS WHAT COUNTS. Prove the row's statement (the work); the ties are given (YtikgmhpbdcdogaaGreatDoorTie.lean); close each card by the builder's one call (the guide's Derived/Test/ToyasCard.lean, 'card_holds'). Laid BY PROGRAM, IN A SANDBOX (cutbox-door.mjs). By AI agents, Wed Nov 11 2026. No macro, syntax, notation, axiom, sorry.
-/
import Derived.Test.YtikgmhpbdcdogaaGreatDoorRows
import GoSem.ClaimSeven
namespace Go.Proofs.YtikgmhpbdcdogaaGreatDoor
namespace Rows

/-- THE TIED CARD OF 'tontinekeep.ClaimsPanjered'. -/
def claimsPanjeredCard : Claim7 := { stood := { row := claimsPanjeredRow, standIns := [], harness := (true, "448ba204ee2c904979bfa1480c3fd9194e1fc24840c2f8a19ad04d7a7f6b6257"), looks := true }, kinds := [], alts := [], laidByText := true, laidKinds := [.data, .data, .data], laidTests := true, laidLooks := .later }
def ClaimsPanjeredCardSaid : Prop := Claim7.holds Tryz.pinned (.plain (OpenSpec.ofChange claimsPanjeredSpec)) claimsPanjeredCard

/-- THE TIED CARD OF 'tontinekeep.ClaimsLayers'. -/
def claimsLayersCard : Claim7 := { stood := { row := claimsLayersRow, standIns := [], harness := (true, "448ba204ee2c904979bfa1480c3fd9194e1fc24840c2f8a19ad04d7a7f6b6257"), looks := true }, kinds := [], alts := [], laidByText := true, laidKinds := [.data, .data, .data, .handle], laidTests := true, laidLooks := .later }
def ClaimsLayersCardSaid : Prop := Claim7.holds Tryz.pinned (.plain (OpenSpec.ofChange claimsLayersSpec)) claimsLayersCard

/-- THE TIED CARD OF 'tontinekeep.OrderBeside'. -/
def orderBesideCard : Claim7 := { stood := { row := orderBesideRow, standIns := [], harness := (true, "448ba204ee2c904979bfa1480c3fd9194e1fc24840c2f8a19ad04d7a7f6b6257"), looks := true }, kinds := [], alts := [], laidByText := true, laidKinds := [.data, .data, .data, .handle], laidTests := true, laidLooks := .later }
def OrderBesideCardSaid : Prop := Claim7.holds Tryz.pinned (.plain (OpenSpec.ofChange orderBesideSpec)) orderBesideCard

/-- THE SECOND FORM's CARD OF 'tontinekeep.ClaimsPanjered'. -/
def claimsPanjeredUptoCard : Claim7 := { stood := { row := claimsPanjeredUptoRow, standIns := [], harness := (true, "448ba204ee2c904979bfa1480c3fd9194e1fc24840c2f8a19ad04d7a7f6b6257"), looks := true }, kinds := [], alts := [], laidByText := true, laidKinds := [.data, .data, .data], laidTests := true, laidLooks := .later }
def ClaimsPanjeredUptoCardSaid : Prop := Claim7.holds Tryz.pinned (.plain (OpenSpec.upto claimsPanjeredSpec)) claimsPanjeredUptoCard

/-- THE SECOND FORM's CARD OF 'tontinekeep.ClaimsLayers'. -/
def claimsLayersUptoCard : Claim7 := { stood := { row := claimsLayersUptoRow, standIns := [], harness := (true, "448ba204ee2c904979bfa1480c3fd9194e1fc24840c2f8a19ad04d7a7f6b6257"), looks := true }, kinds := [], alts := [], laidByText := true, laidKinds := [.data, .data, .data, .handle], laidTests := true, laidLooks := .later }
def ClaimsLayersUptoCardSaid : Prop := Claim7.holds Tryz.pinned (.plain (OpenSpec.upto claimsLayersSpec)) claimsLayersUptoCard

/-- THE SECOND FORM's CARD OF 'tontinekeep.OrderBeside'. -/
def orderBesideUptoCard : Claim7 := { stood := { row := orderBesideUptoRow, standIns := [], harness := (true, "448ba204ee2c904979bfa1480c3fd9194e1fc24840c2f8a19ad04d7a7f6b6257"), looks := true }, kinds := [], alts := [], laidByText := true, laidKinds := [.data, .data, .data, .handle], laidTests := true, laidLooks := .later }
def OrderBesideUptoCardSaid : Prop := Claim7.holds Tryz.pinned (.plain (OpenSpec.upto orderBesideSpec)) orderBesideUptoCard
end Rows
end Go.Proofs.YtikgmhpbdcdogaaGreatDoor
