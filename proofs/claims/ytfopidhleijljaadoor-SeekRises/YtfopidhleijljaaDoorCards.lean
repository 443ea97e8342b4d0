/-
  DERIVED. GIVEN WITH THE SEED: THE CARDS: each row of YtfopidhleijljaaDoorRows.lean that lists a variable, with what it lists TIED to the program's text (the seventh form; the later family's looks); each row that meets fmt, with fmt's text TOLD by the authors' own Lean function (tested against real Go, not proved from fmt's source: count such statements apart). THE CARD IS WHAT COUNTS. Prove the row's statement (the work); the ties are given (YtfopidhleijljaaDoorTie.lean); close each card by the builder's one call (the guide's Derived/Test/ToyasCard.lean, 'card_holds'). Laid BY PROGRAM, IN A SANDBOX (cutbox-door.mjs). By AI agents, Wed Nov 11 2026. No macro, syntax, notation, axiom, sorry.
-/
import Derived.Test.YtfopidhleijljaaDoorRows
import GoSem.ClaimSeven
namespace Go.Proofs.YtfopidhleijljaaDoor
namespace Rows

/-- THE TIED CARD OF 'leapfroglaw12.SeekRises'. -/
def seekRisesCard : Claim7 := { stood := { row := seekRisesRow, standIns := [], harness := (true, "935cc670f15ab4f7db39f62ea9f74d5a3d0c9cdb1c1a7158a2de74f5bd951698"), looks := false }, kinds := [], alts := [], laidByText := true, laidKinds := [.data], laidTests := true, laidLooks := .later }
def SeekRisesCardSaid : Prop := Claim7.holds Tryd.pinned (.plain (OpenSpec.ofChange seekRisesSpec)) seekRisesCard

/-- THE SECOND FORM's CARD OF 'leapfroglaw12.SeekRises'. -/
def seekRisesUptoCard : Claim7 := { stood := { row := seekRisesUptoRow, standIns := [], harness := (true, "935cc670f15ab4f7db39f62ea9f74d5a3d0c9cdb1c1a7158a2de74f5bd951698"), looks := false }, kinds := [], alts := [], laidByText := true, laidKinds := [.data], laidTests := true, laidLooks := .later }
def SeekRisesUptoCardSaid : Prop := Claim7.holds Tryd.pinned (.plain (OpenSpec.upto seekRisesSpec)) seekRisesUptoCard
end Rows
end Go.Proofs.YtfopidhleijljaaDoor
