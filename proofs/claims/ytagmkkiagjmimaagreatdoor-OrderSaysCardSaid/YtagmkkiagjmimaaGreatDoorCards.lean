/-
  DERIVED. GIVEN WITH THE SEED: THE CARDS: each row of YtagmkkiagjmimaaGreatDoorRows.lean that lists a variable, with what it lists TIED to the program's text (the seventh form; the later family's looks); each row that meets fmt, with fmt's text TOLD by the authors' own Lean function (tested against real Go, not proved from fmt's source: count such statements apart). THE CARD IS WHAT COUNTS. Prove the row's statement (the work); the ties are given (YtagmkkiagjmimaaGreatDoorTie.lean); close each card by the builder's one call (the guide's Derived/Test/ToyasCard.lean, 'card_holds'). Laid BY PROGRAM, IN A SANDBOX (cutbox-door.mjs). By AI agents, Wed Nov 11 2026. No macro, syntax, notation, axiom, sorry.
-/
import Derived.Test.YtagmkkiagjmimaaGreatDoorRows
import GoSem.ClaimSeven
namespace Go.Proofs.YtagmkkiagjmimaaGreatDoor
namespace Rows

/-- THE TIED CARD OF 'tontinelaw.FracNear'. -/
def fracNearCard : Claim7 := { stood := { row := fracNearRow, standIns := [], harness := (true, "2221625d58b73759a792136dd4801e66192dd0f08233eec995e92b97aa677481"), looks := true }, kinds := [], alts := [], laidByText := true, laidKinds := [.data, .data, .data, .handle], laidTests := true, laidLooks := .later }
def FracNearCardSaid : Prop := Claim7.holds Tryz.pinned (.plain (OpenSpec.ofChange fracNearSpec)) fracNearCard

/-- THE TIED CARD OF 'tontinelaw.RuinSays'. -/
def ruinSaysCard : Claim7 := { stood := { row := ruinSaysRow, standIns := [], harness := (true, "2221625d58b73759a792136dd4801e66192dd0f08233eec995e92b97aa677481"), looks := true }, kinds := [], alts := [], laidByText := true, laidKinds := [.data, .data, .data, .handle], laidTests := true, laidLooks := .later }
def RuinSaysCardSaid : Prop := Claim7.holds Tryz.pinned (.plain (OpenSpec.ofChange ruinSaysSpec)) ruinSaysCard

/-- THE TIED CARD OF 'tontinelaw.RuinBest'. -/
def ruinBestCard : Claim7 := { stood := { row := ruinBestRow, standIns := [], harness := (true, "2221625d58b73759a792136dd4801e66192dd0f08233eec995e92b97aa677481"), looks := true }, kinds := [], alts := [], laidByText := true, laidKinds := [.data, .data, .data, .handle], laidTests := true, laidLooks := .later }
def RuinBestCardSaid : Prop := Claim7.holds Tryz.pinned (.plain (OpenSpec.ofChange ruinBestSpec)) ruinBestCard

/-- THE TIED CARD OF 'tontinelaw.OrderSays'. -/
def orderSaysCard : Claim7 := { stood := { row := orderSaysRow, standIns := [], harness := (true, "2221625d58b73759a792136dd4801e66192dd0f08233eec995e92b97aa677481"), looks := true }, kinds := [], alts := [], laidByText := true, laidKinds := [.data, .data, .data, .handle], laidTests := true, laidLooks := .later }
def OrderSaysCardSaid : Prop := Claim7.holds Tryz.pinned (.plain (OpenSpec.ofChange orderSaysSpec)) orderSaysCard

/-- THE TIED CARD OF 'tontinelaw.ClaimsSay'. -/
def claimsSayCard : Claim7 := { stood := { row := claimsSayRow, standIns := [], harness := (true, "2221625d58b73759a792136dd4801e66192dd0f08233eec995e92b97aa677481"), looks := true }, kinds := [], alts := [], laidByText := true, laidKinds := [.data, .data, .data, .handle], laidTests := true, laidLooks := .later }
def ClaimsSayCardSaid : Prop := Claim7.holds Tryz.pinned (.plain (OpenSpec.ofChange claimsSaySpec)) claimsSayCard

/-- THE SECOND FORM's CARD OF 'tontinelaw.FracNear'. -/
def fracNearUptoCard : Claim7 := { stood := { row := fracNearUptoRow, standIns := [], harness := (true, "2221625d58b73759a792136dd4801e66192dd0f08233eec995e92b97aa677481"), looks := true }, kinds := [], alts := [], laidByText := true, laidKinds := [.data, .data, .data, .handle], laidTests := true, laidLooks := .later }
def FracNearUptoCardSaid : Prop := Claim7.holds Tryz.pinned (.plain (OpenSpec.upto fracNearSpec)) fracNearUptoCard

/-- THE SECOND FORM's CARD OF 'tontinelaw.RuinSays'. -/
def ruinSaysUptoCard : Claim7 := { stood := { row := ruinSaysUptoRow, standIns := [], harness := (true, "2221625d58b73759a792136dd4801e66192dd0f08233eec995e92b97aa677481"), looks := true }, kinds := [], alts := [], laidByText := true, laidKinds := [.data, .data, .data, .handle], laidTests := true, laidLooks := .later }
def RuinSaysUptoCardSaid : Prop := Claim7.holds Tryz.pinned (.plain (OpenSpec.upto ruinSaysSpec)) ruinSaysUptoCard

/-- THE SECOND FORM's CARD OF 'tontinelaw.RuinBest'. -/
def ruinBestUptoCard : Claim7 := { stood := { row := ruinBestUptoRow, standIns := [], harness := (true, "2221625d58b73759a792136dd4801e66192dd0f08233eec995e92b97aa677481"), looks := true }, kinds := [], alts := [], laidByText := true, laidKinds := [.data, .data, .data, .handle], laidTests := true, laidLooks := .later }
def RuinBestUptoCardSaid : Prop := Claim7.holds Tryz.pinned (.plain (OpenSpec.upto ruinBestSpec)) ruinBestUptoCard

/-- THE SECOND FORM's CARD OF 'tontinelaw.OrderSays'. -/
def orderSaysUptoCard : Claim7 := { stood := { row := orderSaysUptoRow, standIns := [], harness := (true, "2221625d58b73759a792136dd4801e66192dd0f08233eec995e92b97aa677481"), looks := true }, kinds := [], alts := [], laidByText := true, laidKinds := [.data, .data, .data, .handle], laidTests := true, laidLooks := .later }
def OrderSaysUptoCardSaid : Prop := Claim7.holds Tryz.pinned (.plain (OpenSpec.upto orderSaysSpec)) orderSaysUptoCard

/-- THE SECOND FORM's CARD OF 'tontinelaw.ClaimsSay'. -/
def claimsSayUptoCard : Claim7 := { stood := { row := claimsSayUptoRow, standIns := [], harness := (true, "2221625d58b73759a792136dd4801e66192dd0f08233eec995e92b97aa677481"), looks := true }, kinds := [], alts := [], laidByText := true, laidKinds := [.data, .data, .data, .handle], laidTests := true, laidLooks := .later }
def ClaimsSayUptoCardSaid : Prop := Claim7.holds Tryz.pinned (.plain (OpenSpec.upto claimsSaySpec)) claimsSayUptoCard
end Rows
end Go.Proofs.YtagmkkiagjmimaaGreatDoor
