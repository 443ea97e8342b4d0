/-
  DERIVED. GIVEN WITH THE SEED: THE CARDS: each row of YtidgkaephikjaabDoorRows.lean that lists a variable, with what it lists TIED to the program's text (the seventh form; the later family's looks); each row that meets fmt, with fmt's text TOLD by the authors' own Lean function (tested against real Go, not proved from fmt's source: count such statements apart). THE CARD IS WHAT COUNTS. Prove the row's statement (the work); the ties are given (YtidgkaephikjaabDoorTie.lean); close each card by the builder's one call (the guide's Derived/Test/ToyasCard.lean, 'card_holds'). Laid BY PROGRAM, IN A SANDBOX (cutbox-door.mjs). By AI agents, Wed Nov 11 2026. No macro, syntax, notation, axiom, sorry.
-/
import Derived.Test.YtidgkaephikjaabDoorRows
import GoSem.ClaimSeven
namespace Go.Proofs.YtidgkaephikjaabDoor
namespace Rows

/-- THE TIED CARD OF 'leapfroglaw02.KeyBack'. -/
def keyBackCard : Claim7 := { stood := { row := keyBackRow, standIns := [], harness := (true, "57d80d7e488d7a8fe8865a0f47e4089341dcc50ace615e33f78d12645f24fac7"), looks := true }, kinds := [], alts := [], laidByText := true, laidKinds := [.data, .data, .data, .sentinel, .sentinel, .data], laidTests := true, laidLooks := .later }
def KeyBackCardSaid : Prop := Claim7.holds Tryd.pinned (.plain (OpenSpec.ofChange keyBackSpec)) keyBackCard

/-- THE TIED CARD OF 'leapfroglaw02.KeyPlaces'. -/
def keyPlacesCard : Claim7 := { stood := { row := keyPlacesRow, standIns := [], harness := (true, "57d80d7e488d7a8fe8865a0f47e4089341dcc50ace615e33f78d12645f24fac7"), looks := true }, kinds := [], alts := [], laidByText := true, laidKinds := [.data, .data, .data, .data], laidTests := true, laidLooks := .later }
def KeyPlacesCardSaid : Prop := Claim7.holds Tryd.pinned (.plain (OpenSpec.ofChange keyPlacesSpec)) keyPlacesCard

/-- THE SECOND FORM's CARD OF 'leapfroglaw02.KeyBack'. -/
def keyBackUptoCard : Claim7 := { stood := { row := keyBackUptoRow, standIns := [], harness := (true, "57d80d7e488d7a8fe8865a0f47e4089341dcc50ace615e33f78d12645f24fac7"), looks := true }, kinds := [], alts := [], laidByText := true, laidKinds := [.data, .data, .data, .sentinel, .sentinel, .data], laidTests := true, laidLooks := .later }
def KeyBackUptoCardSaid : Prop := Claim7.holds Tryd.pinned (.plain (OpenSpec.upto keyBackSpec)) keyBackUptoCard

/-- THE SECOND FORM's CARD OF 'leapfroglaw02.KeyPlaces'. -/
def keyPlacesUptoCard : Claim7 := { stood := { row := keyPlacesUptoRow, standIns := [], harness := (true, "57d80d7e488d7a8fe8865a0f47e4089341dcc50ace615e33f78d12645f24fac7"), looks := true }, kinds := [], alts := [], laidByText := true, laidKinds := [.data, .data, .data, .data], laidTests := true, laidLooks := .later }
def KeyPlacesUptoCardSaid : Prop := Claim7.holds Tryd.pinned (.plain (OpenSpec.upto keyPlacesSpec)) keyPlacesUptoCard
end Rows
end Go.Proofs.YtidgkaephikjaabDoor
