/-
  DERIVED. GIVEN WITH THE SEED: THE CARDS: each row of YtpfnnhjnakmnoaaGreatDoorRows.lean that lists a variable, with what it lists TIED to the program's text (the seventh form; the later family's looks); each row that meets fmt, with fmt's text TOLD by the authors' own Lean function (tested against real Go, not proved from fmt's source: count such statements apart). THE CARD IS WHAT COUNTS. Prove the row's statement (the work); the ties are given (YtpfnnhjnakmnoaaGreatDoorTie.lean); close each card by the builder's one call (the guide's Derived/Test/ToyasCard.lean, 'card_holds'). Laid BY PROGRAM, IN A SANDBOX (cutbox-door.mjs). By AI agents, Wed Nov 11 2026. No macro, syntax, notation, axiom, sorry.
-/
import Derived.Test.YtpfnnhjnakmnoaaGreatDoorRows
import GoSem.ClaimSeven
namespace Go.Proofs.YtpfnnhjnakmnoaaGreatDoor
namespace Rows

/-- THE TIED CARD OF 'tontinelaw.FracNear'. -/
def fracNearCard : Claim7 := { stood := { row := fracNearRow, standIns := [], harness := (true, "6be990017f929f1d3e7d8925d43c799f6d14cf3aa4f9a50d9ca2884aceb56679"), looks := true }, kinds := [], alts := [], laidByText := true, laidKinds := [.data, .data, .data, .handle], laidTests := true, laidLooks := .later }
def FracNearCardSaid : Prop := Claim7.holds Tryz.pinned (.plain (OpenSpec.ofChange fracNearSpec)) fracNearCard

/-- THE TIED CARD OF 'tontinelaw.MatchPairs'. -/
def matchPairsCard : Claim7 := { stood := { row := matchPairsRow, standIns := [], harness := (true, "6be990017f929f1d3e7d8925d43c799f6d14cf3aa4f9a50d9ca2884aceb56679"), looks := true }, kinds := [], alts := [], laidByText := true, laidKinds := [.data, .data, .data, .handle], laidTests := true, laidLooks := .later }
def MatchPairsCardSaid : Prop := Claim7.holds Tryz.pinned (.plain (OpenSpec.ofChange matchPairsSpec)) matchPairsCard

/-- THE TIED CARD OF 'tontinekeep.MatchPair'. -/
def matchPairCard : Claim7 := { stood := { row := matchPairRow, standIns := [], harness := (true, "6be990017f929f1d3e7d8925d43c799f6d14cf3aa4f9a50d9ca2884aceb56679"), looks := true }, kinds := [], alts := [], laidByText := true, laidKinds := [.data, .data, .data], laidTests := true, laidLooks := .later }
def MatchPairCardSaid : Prop := Claim7.holds Tryz.pinned (.plain (OpenSpec.ofChange matchPairSpec)) matchPairCard

/-- THE SECOND FORM's CARD OF 'tontinelaw.FracNear'. -/
def fracNearUptoCard : Claim7 := { stood := { row := fracNearUptoRow, standIns := [], harness := (true, "6be990017f929f1d3e7d8925d43c799f6d14cf3aa4f9a50d9ca2884aceb56679"), looks := true }, kinds := [], alts := [], laidByText := true, laidKinds := [.data, .data, .data, .handle], laidTests := true, laidLooks := .later }
def FracNearUptoCardSaid : Prop := Claim7.holds Tryz.pinned (.plain (OpenSpec.upto fracNearSpec)) fracNearUptoCard

/-- THE SECOND FORM's CARD OF 'tontinelaw.MatchPairs'. -/
def matchPairsUptoCard : Claim7 := { stood := { row := matchPairsUptoRow, standIns := [], harness := (true, "6be990017f929f1d3e7d8925d43c799f6d14cf3aa4f9a50d9ca2884aceb56679"), looks := true }, kinds := [], alts := [], laidByText := true, laidKinds := [.data, .data, .data, .handle], laidTests := true, laidLooks := .later }
def MatchPairsUptoCardSaid : Prop := Claim7.holds Tryz.pinned (.plain (OpenSpec.upto matchPairsSpec)) matchPairsUptoCard

/-- THE SECOND FORM's CARD OF 'tontinekeep.MatchPair'. -/
def matchPairUptoCard : Claim7 := { stood := { row := matchPairUptoRow, standIns := [], harness := (true, "6be990017f929f1d3e7d8925d43c799f6d14cf3aa4f9a50d9ca2884aceb56679"), looks := true }, kinds := [], alts := [], laidByText := true, laidKinds := [.data, .data, .data], laidTests := true, laidLooks := .later }
def MatchPairUptoCardSaid : Prop := Claim7.holds Tryz.pinned (.plain (OpenSpec.upto matchPairSpec)) matchPairUptoCard
end Rows
end Go.Proofs.YtpfnnhjnakmnoaaGreatDoor
