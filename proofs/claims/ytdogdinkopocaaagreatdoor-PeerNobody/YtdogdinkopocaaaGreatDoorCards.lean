/-
  DERIVED. GIVEN WITH THE SEED: THE CARDS: each row of YtdogdinkopocaaaGreatDoorRows.lean that lists a variable, with what it lists TIED to the program's text (the seventh form; the later family's looks); each row that meets fmt, with fmt's text TOLD by the authors' own Lean function (tested against real Go, not proved from fmt's source: count such statements apart). THE CARD IS WHAT COUNTS. Prove the row's statement (the work); the ties are given (YtdogdinkopocaaaGreatDoorTie.lean); close each card by the builder's one call (the guide's Derived/Test/ToyasCard.lean, 'card_holds'). Laid BY PROGRAM, IN A SANDBOX (cutbox-door.mjs). By AI agents, Wed Nov 11 2026. No macro, syntax, notation, axiom, sorry.
-/
import Derived.Test.YtdogdinkopocaaaGreatDoorRows
import GoSem.ClaimSeven
namespace Go.Proofs.YtdogdinkopocaaaGreatDoor
namespace Rows

/-- THE TIED CARD OF 'leapfroglaw09.PeerRuns'. -/
def peerRunsCard : Claim7 := { stood := { row := peerRunsRow, standIns := [], harness := (true, "0ba81857ec00dff99481c9ea3294385347d1a54eb3bcfa32c695ac345bd622ab"), looks := false }, kinds := [], alts := [], laidByText := true, laidKinds := [.data], laidTests := true, laidLooks := .later }
def PeerRunsCardSaid : Prop := Claim7.holds Tryz.pinned (.plain (OpenSpec.ofChange peerRunsSpec)) peerRunsCard

/-- THE TIED CARD OF 'leapfroglaw09.PeerSorted'. -/
def peerSortedCard : Claim7 := { stood := { row := peerSortedRow, standIns := [], harness := (true, "0ba81857ec00dff99481c9ea3294385347d1a54eb3bcfa32c695ac345bd622ab"), looks := false }, kinds := [], alts := [], laidByText := true, laidKinds := [.data], laidTests := true, laidLooks := .later }
def PeerSortedCardSaid : Prop := Claim7.holds Tryz.pinned (.plain (OpenSpec.ofChange peerSortedSpec)) peerSortedCard

/-- THE TIED CARD OF 'leapfroglaw09.PeerOnce'. -/
def peerOnceCard : Claim7 := { stood := { row := peerOnceRow, standIns := [], harness := (true, "0ba81857ec00dff99481c9ea3294385347d1a54eb3bcfa32c695ac345bd622ab"), looks := false }, kinds := [], alts := [], laidByText := true, laidKinds := [.data], laidTests := true, laidLooks := .later }
def PeerOnceCardSaid : Prop := Claim7.holds Tryz.pinned (.plain (OpenSpec.ofChange peerOnceSpec)) peerOnceCard

/-- THE TIED CARD OF 'leapfroglaw09.PeerEach'. -/
def peerEachCard : Claim7 := { stood := { row := peerEachRow, standIns := [], harness := (true, "0ba81857ec00dff99481c9ea3294385347d1a54eb3bcfa32c695ac345bd622ab"), looks := false }, kinds := [], alts := [], laidByText := true, laidKinds := [.data], laidTests := true, laidLooks := .later }
def PeerEachCardSaid : Prop := Claim7.holds Tryz.pinned (.plain (OpenSpec.ofChange peerEachSpec)) peerEachCard

/-- THE TIED CARD OF 'leapfroglaw09.PeerNobody'. -/
def peerNobodyCard : Claim7 := { stood := { row := peerNobodyRow, standIns := [], harness := (true, "0ba81857ec00dff99481c9ea3294385347d1a54eb3bcfa32c695ac345bd622ab"), looks := false }, kinds := [], alts := [], laidByText := true, laidKinds := [.data], laidTests := true, laidLooks := .later }
def PeerNobodyCardSaid : Prop := Claim7.holds Tryz.pinned (.plain (OpenSpec.ofChange peerNobodySpec)) peerNobodyCard

/-- THE SECOND FORM's CARD OF 'leapfroglaw09.PeerRuns'. -/
def peerRunsUptoCard : Claim7 := { stood := { row := peerRunsUptoRow, standIns := [], harness := (true, "0ba81857ec00dff99481c9ea3294385347d1a54eb3bcfa32c695ac345bd622ab"), looks := false }, kinds := [], alts := [], laidByText := true, laidKinds := [.data], laidTests := true, laidLooks := .later }
def PeerRunsUptoCardSaid : Prop := Claim7.holds Tryz.pinned (.plain (OpenSpec.upto peerRunsSpec)) peerRunsUptoCard

/-- THE SECOND FORM's CARD OF 'leapfroglaw09.PeerSorted'. -/
def peerSortedUptoCard : Claim7 := { stood := { row := peerSortedUptoRow, standIns := [], harness := (true, "0ba81857ec00dff99481c9ea3294385347d1a54eb3bcfa32c695ac345bd622ab"), looks := false }, kinds := [], alts := [], laidByText := true, laidKinds := [.data], laidTests := true, laidLooks := .later }
def PeerSortedUptoCardSaid : Prop := Claim7.holds Tryz.pinned (.plain (OpenSpec.upto peerSortedSpec)) peerSortedUptoCard

/-- THE SECOND FORM's CARD OF 'leapfroglaw09.PeerOnce'. -/
def peerOnceUptoCard : Claim7 := { stood := { row := peerOnceUptoRow, standIns := [], harness := (true, "0ba81857ec00dff99481c9ea3294385347d1a54eb3bcfa32c695ac345bd622ab"), looks := false }, kinds := [], alts := [], laidByText := true, laidKinds := [.data], laidTests := true, laidLooks := .later }
def PeerOnceUptoCardSaid : Prop := Claim7.holds Tryz.pinned (.plain (OpenSpec.upto peerOnceSpec)) peerOnceUptoCard

/-- THE SECOND FORM's CARD OF 'leapfroglaw09.PeerEach'. -/
def peerEachUptoCard : Claim7 := { stood := { row := peerEachUptoRow, standIns := [], harness := (true, "0ba81857ec00dff99481c9ea3294385347d1a54eb3bcfa32c695ac345bd622ab"), looks := false }, kinds := [], alts := [], laidByText := true, laidKinds := [.data], laidTests := true, laidLooks := .later }
def PeerEachUptoCardSaid : Prop := Claim7.holds Tryz.pinned (.plain (OpenSpec.upto peerEachSpec)) peerEachUptoCard

/-- THE SECOND FORM's CARD OF 'leapfroglaw09.PeerNobody'. -/
def peerNobodyUptoCard : Claim7 := { stood := { row := peerNobodyUptoRow, standIns := [], harness := (true, "0ba81857ec00dff99481c9ea3294385347d1a54eb3bcfa32c695ac345bd622ab"), looks := false }, kinds := [], alts := [], laidByText := true, laidKinds := [.data], laidTests := true, laidLooks := .later }
def PeerNobodyUptoCardSaid : Prop := Claim7.holds Tryz.pinned (.plain (OpenSpec.upto peerNobodySpec)) peerNobodyUptoCard
end Rows
end Go.Proofs.YtdogdinkopocaaaGreatDoor
