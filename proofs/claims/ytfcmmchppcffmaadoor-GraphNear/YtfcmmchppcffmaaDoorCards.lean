/-
  DERIVED. GIVEN WITH THE SEED: THE CARDS: each row of YtfcmmchppcffmaaDoorRows.lean that lists a variable, with what it lists TIED to the program's text (the seventh form; the later family's looks); each row that meets fmt, with fmt's text TOLD by the authors' own Lean function (tested against real Go, not proved from fmt's source: count such statements apart). THE CARD IS WHAT COUNTS. Prove the row's statement (the work); the ties are given (YtfcmmchppcffmaaDoorTie.lean); close each card by the builder's one call (the guide's Derived/Test/ToyasCard.lean, 'card_holds'). Laid BY PROGRAM, IN A SANDBOX (cutbox-door.mjs). By AI agents, Wed Nov 11 2026. No macro, syntax, notation, axiom, sorry.
-/
import Derived.Test.YtfcmmchppcffmaaDoorRows
import GoSem.ClaimSeven
namespace Go.Proofs.YtfcmmchppcffmaaDoor
namespace Rows

/-- THE TIED CARD OF 'leapfroglaw11.GraphNear'. -/
def graphNearCard : Claim7 := { stood := { row := graphNearRow, standIns := [], harness := (true, "062fffabb7e85a55c62ebbe2df2079051feac1a488d2cbc4501db0796e9f27b2"), looks := false }, kinds := [], alts := [], laidByText := true, laidKinds := [.data], laidTests := true, laidLooks := .later }
def GraphNearCardSaid : Prop := Claim7.holds Tryd.pinned (.plain (OpenSpec.ofChange graphNearSpec)) graphNearCard

/-- THE SECOND FORM's CARD OF 'leapfroglaw11.GraphNear'. -/
def graphNearUptoCard : Claim7 := { stood := { row := graphNearUptoRow, standIns := [], harness := (true, "062fffabb7e85a55c62ebbe2df2079051feac1a488d2cbc4501db0796e9f27b2"), looks := false }, kinds := [], alts := [], laidByText := true, laidKinds := [.data], laidTests := true, laidLooks := .later }
def GraphNearUptoCardSaid : Prop := Claim7.holds Tryd.pinned (.plain (OpenSpec.upto graphNearSpec)) graphNearUptoCard
end Rows
end Go.Proofs.YtfcmmchppcffmaaDoor
