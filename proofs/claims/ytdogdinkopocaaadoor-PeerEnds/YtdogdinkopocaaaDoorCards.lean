/-
  DERIVED. GIVEN WITH THE SEED: THE CARDS: each row of YtdogdinkopocaaaDoorRows.lean that lists a variable, with what it lists TIED to the program's text (the seventh form; the later family's looks); each row that meets fmt, with fmt's text TOLD by the authors' own Lean function (tested against real Go, not proved from fmt's source: count such statements apart). THE CARD IS WHAT COUNTS. Prove the row's statement (the work); the ties are given (YtdogdinkopocaaaDoorTie.lean); close each card by the builder's one call (the guide's Derived/Test/ToyasCard.lean, 'card_holds'). Laid BY PROGRAM, IN A SANDBOX (cutbox-door.mjs). By AI agents, Wed Nov 11 2026. No macro, syntax, notation, axiom, sorry.
-/
import Derived.Test.YtdogdinkopocaaaDoorRows
import GoSem.ClaimSeven
namespace Go.Proofs.YtdogdinkopocaaaDoor
namespace Rows

/-- THE TIED CARD OF 'leapfroglaw09.PeerEnds'. -/
def peerEndsCard : Claim7 := { stood := { row := peerEndsRow, standIns := [], harness := (true, "62e25d1c1bd49c3efce0092c2bd0c2cbdb6f6bcb57fc5b39066cf5b44b3dcbef"), looks := false }, kinds := [], alts := [], laidByText := true, laidKinds := [.data], laidTests := true, laidLooks := .later }
def PeerEndsCardSaid : Prop := Claim7.holds Tryd.pinned (.plain (OpenSpec.ofChange peerEndsSpec)) peerEndsCard

/-- THE SECOND FORM's CARD OF 'leapfroglaw09.PeerEnds'. -/
def peerEndsUptoCard : Claim7 := { stood := { row := peerEndsUptoRow, standIns := [], harness := (true, "62e25d1c1bd49c3efce0092c2bd0c2cbdb6f6bcb57fc5b39066cf5b44b3dcbef"), looks := false }, kinds := [], alts := [], laidByText := true, laidKinds := [.data], laidTests := true, laidLooks := .later }
def PeerEndsUptoCardSaid : Prop := Claim7.holds Tryd.pinned (.plain (OpenSpec.upto peerEndsSpec)) peerEndsUptoCard
end Rows
end Go.Proofs.YtdogdinkopocaaaDoor
