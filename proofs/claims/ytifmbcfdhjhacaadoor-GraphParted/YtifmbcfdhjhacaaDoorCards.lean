/-
  DERIVED. GIVEN WITH THE SEED: THE CARDS: each row of YtifmbcfdhjhacaaDoorRows.lean that lists a variable, with what it lists TIED to the program's text (the seventh form; the later family's looks); each row that meets fmt, with fmt's text TOLD by the authors' own Lean function (tested against real Go, not proved from fmt's source: count such statements apart). THE CARD IS WHAT COUNTS. Prove the row's statement (the work); the ties are given (YtifmbcfdhjhacaaDoorTie.lean); close each card by the builder's one call (the guide's Derived/Test/ToyasCard.lean, 'card_holds'). Laid BY PROGRAM, IN A SANDBOX (cutbox-door.mjs). By AI agents, Wed Nov 11 2026. No macro, syntax, notation, axiom, sorry.
-/
import Derived.Test.YtifmbcfdhjhacaaDoorRows
import GoSem.ClaimSeven
namespace Go.Proofs.YtifmbcfdhjhacaaDoor
namespace Rows

/-- THE TIED CARD OF 'leapfroglaw11.GraphParted'. -/
def graphPartedCard : Claim7 := { stood := { row := graphPartedRow, standIns := [], harness := (true, "5281dfbb83a0233a4ccf65caa96d11a5ecb10d1ba93da20d93e58e08fb09b7e1"), looks := false }, kinds := [], alts := [], laidByText := true, laidKinds := [.data], laidTests := true, laidLooks := .later }
def GraphPartedCardSaid : Prop := Claim7.holds Tryd.pinned (.plain (OpenSpec.ofChange graphPartedSpec)) graphPartedCard

/-- THE SECOND FORM's CARD OF 'leapfroglaw11.GraphParted'. -/
def graphPartedUptoCard : Claim7 := { stood := { row := graphPartedUptoRow, standIns := [], harness := (true, "5281dfbb83a0233a4ccf65caa96d11a5ecb10d1ba93da20d93e58e08fb09b7e1"), looks := false }, kinds := [], alts := [], laidByText := true, laidKinds := [.data], laidTests := true, laidLooks := .later }
def GraphPartedUptoCardSaid : Prop := Claim7.holds Tryd.pinned (.plain (OpenSpec.upto graphPartedSpec)) graphPartedUptoCard
end Rows
end Go.Proofs.YtifmbcfdhjhacaaDoor
