/-
  DERIVED. GIVEN WITH THE SEED: THE CARDS: each row of YtokehogcenjefaaGreatDoorRows.lean that lists a variable, with what it lists TIED to the program's text (the seventh form; the later family's looks); each row that meets fmt, with fmt's text TOLD by the authors' own Lean function (tested against real Go, not proved from fmt's source: count such statements apart). THE CARD IS WHAT COUNTS. Prove the row's statement (the work); the ties are given (YtokehogcenjefaaGreatDoorTie.lean); close each card by the builder's one call (the guide's Derived/Test/ToyasCard.lean, 'card_holds'). Laid BY PROGRAM, IN A SANDBOX (cutbox-door.mjs). By AI agents, Wed Nov 11 2026. No macro, syntax, notation, axiom, sorry.
-/
import Derived.Test.YtokehogcenjefaaGreatDoorRows
import GoSem.ClaimSeven
namespace Go.Proofs.YtokehogcenjefaaGreatDoor
namespace Rows

/-- THE TIED CARD OF 'leapfroglaw16.RemoveRuns'. -/
def removeRunsCard : Claim7 := { stood := { row := removeRunsRow, standIns := [], harness := (true, "b9aaace8167a18a3ec152f56a872797d019763781ba5ef655f55ffa0350c3d87"), looks := false }, kinds := [], alts := [], laidByText := true, laidKinds := [.data], laidTests := true, laidLooks := .later }
def RemoveRunsCardSaid : Prop := Claim7.holds Tryz.pinned (.plain (OpenSpec.ofChange removeRunsSpec)) removeRunsCard

/-- THE TIED CARD OF 'leapfroglaw16.RemoveGone'. -/
def removeGoneCard : Claim7 := { stood := { row := removeGoneRow, standIns := [], harness := (true, "b9aaace8167a18a3ec152f56a872797d019763781ba5ef655f55ffa0350c3d87"), looks := false }, kinds := [], alts := [], laidByText := true, laidKinds := [.data], laidTests := true, laidLooks := .later }
def RemoveGoneCardSaid : Prop := Claim7.holds Tryz.pinned (.plain (OpenSpec.ofChange removeGoneSpec)) removeGoneCard

/-- THE SECOND FORM's CARD OF 'leapfroglaw16.RemoveRuns'. -/
def removeRunsUptoCard : Claim7 := { stood := { row := removeRunsUptoRow, standIns := [], harness := (true, "b9aaace8167a18a3ec152f56a872797d019763781ba5ef655f55ffa0350c3d87"), looks := false }, kinds := [], alts := [], laidByText := true, laidKinds := [.data], laidTests := true, laidLooks := .later }
def RemoveRunsUptoCardSaid : Prop := Claim7.holds Tryz.pinned (.plain (OpenSpec.upto removeRunsSpec)) removeRunsUptoCard

/-- THE SECOND FORM's CARD OF 'leapfroglaw16.RemoveGone'. -/
def removeGoneUptoCard : Claim7 := { stood := { row := removeGoneUptoRow, standIns := [], harness := (true, "b9aaace8167a18a3ec152f56a872797d019763781ba5ef655f55ffa0350c3d87"), looks := false }, kinds := [], alts := [], laidByText := true, laidKinds := [.data], laidTests := true, laidLooks := .later }
def RemoveGoneUptoCardSaid : Prop := Claim7.holds Tryz.pinned (.plain (OpenSpec.upto removeGoneSpec)) removeGoneUptoCard
end Rows
end Go.Proofs.YtokehogcenjefaaGreatDoor
