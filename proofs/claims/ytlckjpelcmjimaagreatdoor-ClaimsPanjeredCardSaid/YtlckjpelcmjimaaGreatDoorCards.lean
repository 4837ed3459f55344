/-
  DERIVED. GIVEN WITH THE SEED: THE CARDS: each row of YtlckjpelcmjimaaGreatDoorRows.lean that lists a variable, with what it lists TIED to the program's text (the seventh form; the later family's looks); each row that meets fmt, with fmt's text TOLD by the authors' own Lean function (tested against real Go, not proved from fmt's source: count such statements apart). THE CARD IS WHAT COUNTS. Prove the row's statement (the work); the ties are given (YtlckjpelcmjimaaGreatDoorTie.lean); close each card by the builder's one call (the guide's Derived/Test/ToyasCard.lean, 'card_holds'). Laid BY PROGRAM, IN A SANDBOX (cutbox-door.mjs). By AI agents, Wed Nov 11 2026. No macro, syntax, notation, axiom, sorry.
-/
import Derived.Test.YtlckjpelcmjimaaGreatDoorRows
import GoSem.ClaimSeven
namespace Go.Proofs.YtlckjpelcmjimaaGreatDoor
namespace Rows

/-- THE TIED CARD OF 'tontinekeep.ClaimsPanjered'. -/
def claimsPanjeredCard : Claim7 := { stood := { row := claimsPanjeredRow, standIns := [], harness := (true, "4d3c00088ceb963bd83af4490b4efff3751756a27bf0e4ff69c560e29abee221"), looks := true }, kinds := [], alts := [], laidByText := true, laidKinds := [.data, .data, .data], laidTests := true, laidLooks := .later }
def ClaimsPanjeredCardSaid : Prop := Claim7.holds Tryz.pinned (.plain (OpenSpec.ofChange claimsPanjeredSpec)) claimsPanjeredCard

/-- THE TIED CARD OF 'tontinekeep.ClaimsLayers'. -/
def claimsLayersCard : Claim7 := { stood := { row := claimsLayersRow, standIns := [], harness := (true, "4d3c00088ceb963bd83af4490b4efff3751756a27bf0e4ff69c560e29abee221"), looks := true }, kinds := [], alts := [], laidByText := true, laidKinds := [.data, .data, .data, .handle], laidTests := true, laidLooks := .later }
def ClaimsLayersCardSaid : Prop := Claim7.holds Tryz.pinned (.plain (OpenSpec.ofChange claimsLayersSpec)) claimsLayersCard

/-- THE TIED CARD OF 'tontinekeep.OrderBeside'. -/
def orderBesideCard : Claim7 := { stood := { row := orderBesideRow, standIns := [], harness := (true, "4d3c00088ceb963bd83af4490b4efff3751756a27bf0e4ff69c560e29abee221"), looks := true }, kinds := [], alts := [], laidByText := true, laidKinds := [.data, .data, .data, .handle], laidTests := true, laidLooks := .later }
def OrderBesideCardSaid : Prop := Claim7.holds Tryz.pinned (.plain (OpenSpec.ofChange orderBesideSpec)) orderBesideCard

/-- THE TIED CARD OF 'tontinekeep.OrderSpread'. -/
def orderSpreadCard : Claim7 := { stood := { row := orderSpreadRow, standIns := [], harness := (true, "4d3c00088ceb963bd83af4490b4efff3751756a27bf0e4ff69c560e29abee221"), looks := true }, kinds := [], alts := [], laidByText := true, laidKinds := [.data, .data, .data, .handle], laidTests := true, laidLooks := .later }
def OrderSpreadCardSaid : Prop := Claim7.holds Tryz.pinned (.plain (OpenSpec.ofChange orderSpreadSpec)) orderSpreadCard

/-- THE TIED CARD OF 'tontinekeep.RuinBound'. -/
def ruinBoundCard : Claim7 := { stood := { row := ruinBoundRow, standIns := [], harness := (true, "4d3c00088ceb963bd83af4490b4efff3751756a27bf0e4ff69c560e29abee221"), looks := true }, kinds := [], alts := [], laidByText := true, laidKinds := [.data, .data, .data], laidTests := true, laidLooks := .later }
def RuinBoundCardSaid : Prop := Claim7.holds Tryz.pinned (.plain (OpenSpec.ofChange ruinBoundSpec)) ruinBoundCard

/-- THE TIED CARD OF 'tontinekeep.CreditBest'. -/
def creditBestCard : Claim7 := { stood := { row := creditBestRow, standIns := [], harness := (true, "4d3c00088ceb963bd83af4490b4efff3751756a27bf0e4ff69c560e29abee221"), looks := true }, kinds := [], alts := [], laidByText := true, laidKinds := [.data, .data, .data], laidTests := true, laidLooks := .later }
def CreditBestCardSaid : Prop := Claim7.holds Tryz.pinned (.plain (OpenSpec.ofChange creditBestSpec)) creditBestCard

/-- THE SECOND FORM's CARD OF 'tontinekeep.ClaimsPanjered'. -/
def claimsPanjeredUptoCard : Claim7 := { stood := { row := claimsPanjeredUptoRow, standIns := [], harness := (true, "4d3c00088ceb963bd83af4490b4efff3751756a27bf0e4ff69c560e29abee221"), looks := true }, kinds := [], alts := [], laidByText := true, laidKinds := [.data, .data, .data], laidTests := true, laidLooks := .later }
def ClaimsPanjeredUptoCardSaid : Prop := Claim7.holds Tryz.pinned (.plain (OpenSpec.upto claimsPanjeredSpec)) claimsPanjeredUptoCard

/-- THE SECOND FORM's CARD OF 'tontinekeep.ClaimsLayers'. -/
def claimsLayersUptoCard : Claim7 := { stood := { row := claimsLayersUptoRow, standIns := [], harness := (true, "4d3c00088ceb963bd83af4490b4efff3751756a27bf0e4ff69c560e29abee221"), looks := true }, kinds := [], alts := [], laidByText := true, laidKinds := [.data, .data, .data, .handle], laidTests := true, laidLooks := .later }
def ClaimsLayersUptoCardSaid : Prop := Claim7.holds Tryz.pinned (.plain (OpenSpec.upto claimsLayersSpec)) claimsLayersUptoCard

/-- THE SECOND FORM's CARD OF 'tontinekeep.OrderBeside'. -/
def orderBesideUptoCard : Claim7 := { stood := { row := orderBesideUptoRow, standIns := [], harness := (true, "4d3c00088ceb963bd83af4490b4efff3751756a27bf0e4ff69c560e29abee221"), looks := true }, kinds := [], alts := [], laidByText := true, laidKinds := [.data, .data, .data, .handle], laidTests := true, laidLooks := .later }
def OrderBesideUptoCardSaid : Prop := Claim7.holds Tryz.pinned (.plain (OpenSpec.upto orderBesideSpec)) orderBesideUptoCard

/-- THE SECOND FORM's CARD OF 'tontinekeep.OrderSpread'. -/
def orderSpreadUptoCard : Claim7 := { stood := { row := orderSpreadUptoRow, standIns := [], harness := (true, "4d3c00088ceb963bd83af4490b4efff3751756a27bf0e4ff69c560e29abee221"), looks := true }, kinds := [], alts := [], laidByText := true, laidKinds := [.data, .data, .data, .handle], laidTests := true, laidLooks := .later }
def OrderSpreadUptoCardSaid : Prop := Claim7.holds Tryz.pinned (.plain (OpenSpec.upto orderSpreadSpec)) orderSpreadUptoCard

/-- THE SECOND FORM's CARD OF 'tontinekeep.RuinBound'. -/
def ruinBoundUptoCard : Claim7 := { stood := { row := ruinBoundUptoRow, standIns := [], harness := (true, "4d3c00088ceb963bd83af4490b4efff3751756a27bf0e4ff69c560e29abee221"), looks := true }, kinds := [], alts := [], laidByText := true, laidKinds := [.data, .data, .data], laidTests := true, laidLooks := .later }
def RuinBoundUptoCardSaid : Prop := Claim7.holds Tryz.pinned (.plain (OpenSpec.upto ruinBoundSpec)) ruinBoundUptoCard

/-- THE SECOND FORM's CARD OF 'tontinekeep.CreditBest'. -/
def creditBestUptoCard : Claim7 := { stood := { row := creditBestUptoRow, standIns := [], harness := (true, "4d3c00088ceb963bd83af4490b4efff3751756a27bf0e4ff69c560e29abee221"), looks := true }, kinds := [], alts := [], laidByText := true, laidKinds := [.data, .data, .data], laidTests := true, laidLooks := .later }
def CreditBestUptoCardSaid : Prop := Claim7.holds Tryz.pinned (.plain (OpenSpec.upto creditBestSpec)) creditBestUptoCard
end Rows
end Go.Proofs.YtlckjpelcmjimaaGreatDoor
