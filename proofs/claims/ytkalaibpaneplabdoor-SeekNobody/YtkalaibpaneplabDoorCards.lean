/-
  DERIVED. GIVEN WITH THE SEED: THE CARDS: each row of YtkalaibpaneplabDoorRows.lean that lists a variable, with what it lists TIED to the program's text (the seventh form; the later family's looks); each row that meets fmt, with fmt's text TOLD by the authors' own Lean function (tested against real Go, not proved from fmt's source: count such statements apart). THE CARD IS WHAT COUNTS. Prove the row's statement (the work); the ties are given (YtkalaibpaneplabDoorTie.lean); close each card by the builder's one call (the guide's Derived/Test/ToyasCard.lean, 'card_holds'). Laid BY PROGRAM, IN A SANDBOX (cutbox-door.mjs). By AI agents, Wed Nov 11 2026. No macro, syntax, notation, axiom, sorry.
-/
import Derived.Test.YtkalaibpaneplabDoorRows
import GoSem.ClaimSeven
namespace Go.Proofs.YtkalaibpaneplabDoor
namespace Rows

/-- THE TIED CARD OF 'leapfroglaw12.SeekNobody'. -/
def seekNobodyCard : Claim7 := { stood := { row := seekNobodyRow, standIns := [], harness := (true, "73cc07bf5a0d5c97b695d97a91821d9fa233ec03f5a219aa54b728d6b442618d"), looks := false }, kinds := [], alts := [], laidByText := true, laidKinds := [.data], laidTests := true, laidLooks := .later }
def SeekNobodyCardSaid : Prop := Claim7.holds Tryd.pinned (.plain (OpenSpec.ofChange seekNobodySpec)) seekNobodyCard

/-- THE SECOND FORM's CARD OF 'leapfroglaw12.SeekNobody'. -/
def seekNobodyUptoCard : Claim7 := { stood := { row := seekNobodyUptoRow, standIns := [], harness := (true, "73cc07bf5a0d5c97b695d97a91821d9fa233ec03f5a219aa54b728d6b442618d"), looks := false }, kinds := [], alts := [], laidByText := true, laidKinds := [.data], laidTests := true, laidLooks := .later }
def SeekNobodyUptoCardSaid : Prop := Claim7.holds Tryd.pinned (.plain (OpenSpec.upto seekNobodySpec)) seekNobodyUptoCard
end Rows
end Go.Proofs.YtkalaibpaneplabDoor
