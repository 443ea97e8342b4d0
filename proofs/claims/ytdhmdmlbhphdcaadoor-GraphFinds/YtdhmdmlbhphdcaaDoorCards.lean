/-
  DERIVED. GIVEN WITH THE SEED: THE CARDS: each row of YtdhmdmlbhphdcaaDoorRows.lean that lists a variable, with what it lists TIED to the program's text (the seventh form; the later family's looks); each row that meets fmt, with fmt's text TOLD by the authors' own Lean function (tested against real Go, not proved from fmt's source: count such statements apart). THE CARD IS WHAT COUNTS. Prove the row's statement (the work); the ties are given (YtdhmdmlbhphdcaaDoorTie.lean); close each card by the builder's one call (the guide's Derived/Test/ToyasCard.lean, 'card_holds'). Laid BY PROGRAM, IN A SANDBOX (cutbox-door.mjs). By AI agents, Wed Nov 11 2026. No macro, syntax, notation, axiom, sorry.
-/
import Derived.Test.YtdhmdmlbhphdcaaDoorRows
import GoSem.ClaimSeven
namespace Go.Proofs.YtdhmdmlbhphdcaaDoor
namespace Rows

/-- THE TIED CARD OF 'leapfroglaw11.GraphFinds'. -/
def graphFindsCard : Claim7 := { stood := { row := graphFindsRow, standIns := [], harness := (true, "618ce5a5b532958fa54dbd4360a5c54ef94b2fb959bfce51040a7ed84110673f"), looks := false }, kinds := [], alts := [], laidByText := true, laidKinds := [.data], laidTests := true, laidLooks := .later }
def GraphFindsCardSaid : Prop := Claim7.holds Tryd.pinned (.plain (OpenSpec.ofChange graphFindsSpec)) graphFindsCard

/-- THE SECOND FORM's CARD OF 'leapfroglaw11.GraphFinds'. -/
def graphFindsUptoCard : Claim7 := { stood := { row := graphFindsUptoRow, standIns := [], harness := (true, "618ce5a5b532958fa54dbd4360a5c54ef94b2fb959bfce51040a7ed84110673f"), looks := false }, kinds := [], alts := [], laidByText := true, laidKinds := [.data], laidTests := true, laidLooks := .later }
def GraphFindsUptoCardSaid : Prop := Claim7.holds Tryd.pinned (.plain (OpenSpec.upto graphFindsSpec)) graphFindsUptoCard
end Rows
end Go.Proofs.YtdhmdmlbhphdcaaDoor
