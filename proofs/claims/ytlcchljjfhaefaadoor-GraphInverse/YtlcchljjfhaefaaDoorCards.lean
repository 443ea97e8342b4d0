/-
  DERIVED. GIVEN WITH THE SEED: THE CARDS: each row of YtlcchljjfhaefaaDoorRows.lean that lists a variable, with what it lists TIED to the program's text (the seventh form; the later family's looks); each row that meets fmt, with fmt's text TOLD by the authors' own Lean function (tested against real Go, not proved from fmt's source: count such statements apart). THE CARD IS WHAT COUNTS. Prove the row's statement (the work); the ties are given (YtlcchljjfhaefaaDoorTie.lean); close each card by the builder's one call (the guide's Derived/Test/ToyasCard.lean, 'card_holds'). Laid BY PROGRAM, IN A SANDBOX (cutbox-door.mjs). By AI agents, Wed Nov 11 2026. No macro, syntax, notation, axiom, sorry.
-/
import Derived.Test.YtlcchljjfhaefaaDoorRows
import GoSem.ClaimSeven
namespace Go.Proofs.YtlcchljjfhaefaaDoor
namespace Rows

/-- THE TIED CARD OF 'leapfroglaw11.GraphBeside'. -/
def graphBesideCard : Claim7 := { stood := { row := graphBesideRow, standIns := [], harness := (true, "73d654b249601c0c5d04ba9e77b58d3bcc089f7bf7df05ea08fdda9274734639"), looks := false }, kinds := [], alts := [], laidByText := true, laidKinds := [.data], laidTests := true, laidLooks := .later }
def GraphBesideCardSaid : Prop := Claim7.holds Tryd.pinned (.plain (OpenSpec.ofChange graphBesideSpec)) graphBesideCard

/-- THE TIED CARD OF 'leapfroglaw11.GraphWays'. -/
def graphWaysCard : Claim7 := { stood := { row := graphWaysRow, standIns := [], harness := (true, "73d654b249601c0c5d04ba9e77b58d3bcc089f7bf7df05ea08fdda9274734639"), looks := false }, kinds := [], alts := [], laidByText := true, laidKinds := [.data], laidTests := true, laidLooks := .later }
def GraphWaysCardSaid : Prop := Claim7.holds Tryd.pinned (.plain (OpenSpec.ofChange graphWaysSpec)) graphWaysCard

/-- THE TIED CARD OF 'leapfroglaw11.GraphParted'. -/
def graphPartedCard : Claim7 := { stood := { row := graphPartedRow, standIns := [], harness := (true, "73d654b249601c0c5d04ba9e77b58d3bcc089f7bf7df05ea08fdda9274734639"), looks := false }, kinds := [], alts := [], laidByText := true, laidKinds := [.data], laidTests := true, laidLooks := .later }
def GraphPartedCardSaid : Prop := Claim7.holds Tryd.pinned (.plain (OpenSpec.ofChange graphPartedSpec)) graphPartedCard

/-- THE TIED CARD OF 'leapfroglaw11.GraphInverse'. -/
def graphInverseCard : Claim7 := { stood := { row := graphInverseRow, standIns := [], harness := (true, "73d654b249601c0c5d04ba9e77b58d3bcc089f7bf7df05ea08fdda9274734639"), looks := false }, kinds := [], alts := [], laidByText := true, laidKinds := [.data], laidTests := true, laidLooks := .later }
def GraphInverseCardSaid : Prop := Claim7.holds Tryd.pinned (.plain (OpenSpec.ofChange graphInverseSpec)) graphInverseCard

/-- THE SECOND FORM's CARD OF 'leapfroglaw11.GraphBeside'. -/
def graphBesideUptoCard : Claim7 := { stood := { row := graphBesideUptoRow, standIns := [], harness := (true, "73d654b249601c0c5d04ba9e77b58d3bcc089f7bf7df05ea08fdda9274734639"), looks := false }, kinds := [], alts := [], laidByText := true, laidKinds := [.data], laidTests := true, laidLooks := .later }
def GraphBesideUptoCardSaid : Prop := Claim7.holds Tryd.pinned (.plain (OpenSpec.upto graphBesideSpec)) graphBesideUptoCard

/-- THE SECOND FORM's CARD OF 'leapfroglaw11.GraphWays'. -/
def graphWaysUptoCard : Claim7 := { stood := { row := graphWaysUptoRow, standIns := [], harness := (true, "73d654b249601c0c5d04ba9e77b58d3bcc089f7bf7df05ea08fdda9274734639"), looks := false }, kinds := [], alts := [], laidByText := true, laidKinds := [.data], laidTests := true, laidLooks := .later }
def GraphWaysUptoCardSaid : Prop := Claim7.holds Tryd.pinned (.plain (OpenSpec.upto graphWaysSpec)) graphWaysUptoCard

/-- THE SECOND FORM's CARD OF 'leapfroglaw11.GraphParted'. -/
def graphPartedUptoCard : Claim7 := { stood := { row := graphPartedUptoRow, standIns := [], harness := (true, "73d654b249601c0c5d04ba9e77b58d3bcc089f7bf7df05ea08fdda9274734639"), looks := false }, kinds := [], alts := [], laidByText := true, laidKinds := [.data], laidTests := true, laidLooks := .later }
def GraphPartedUptoCardSaid : Prop := Claim7.holds Tryd.pinned (.plain (OpenSpec.upto graphPartedSpec)) graphPartedUptoCard

/-- THE SECOND FORM's CARD OF 'leapfroglaw11.GraphInverse'. -/
def graphInverseUptoCard : Claim7 := { stood := { row := graphInverseUptoRow, standIns := [], harness := (true, "73d654b249601c0c5d04ba9e77b58d3bcc089f7bf7df05ea08fdda9274734639"), looks := false }, kinds := [], alts := [], laidByText := true, laidKinds := [.data], laidTests := true, laidLooks := .later }
def GraphInverseUptoCardSaid : Prop := Claim7.holds Tryd.pinned (.plain (OpenSpec.upto graphInverseSpec)) graphInverseUptoCard
end Rows
end Go.Proofs.YtlcchljjfhaefaaDoor
