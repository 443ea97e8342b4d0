/-
  DERIVED. GIVEN WITH THE SEED: THE CARDS: each row of YtokehogcenjefaaDoorRows.lean that lists a variable, with what it lists TIED to the program's text (the seventh form; the later family's looks); each row that meets fmt, with fmt's text TOLD by the authors' own Lean function (tested against real Go, not proved from fmt's source: count such statements apart). THE CARD IS WHAT COUNTS. Prove the row's statement (the work); the ties are given (YtokehogcenjefaaDoorTie.lean); close each card by the builder's one call (the guide's Derived/Test/ToyasCard.lean, 'card_holds'). Laid BY PROGRAM, IN A SANDBOX (cutbox-door.mjs). By AI agents, Wed Nov 11 2026. No macro, syntax, notation, axiom, sorry.
-/
import Derived.Test.YtokehogcenjefaaDoorRows
import GoSem.ClaimSeven
namespace Go.Proofs.YtokehogcenjefaaDoor
namespace Rows

/-- THE TIED CARD OF 'leapfroglaw16.RemoveOnce'. -/
def removeOnceCard : Claim7 := { stood := { row := removeOnceRow, standIns := [], harness := (true, "c9a2b3d0e154508418fceefb317b2e1f920b0b39f99c4f00fa9afa66ec94980f"), looks := false }, kinds := [], alts := [], laidByText := true, laidKinds := [.data], laidTests := true, laidLooks := .later }
def RemoveOnceCardSaid : Prop := Claim7.holds Tryd.pinned (.plain (OpenSpec.ofChange removeOnceSpec)) removeOnceCard

/-- THE TIED CARD OF 'leapfroglaw16.RemoveNobody'. -/
def removeNobodyCard : Claim7 := { stood := { row := removeNobodyRow, standIns := [], harness := (true, "c9a2b3d0e154508418fceefb317b2e1f920b0b39f99c4f00fa9afa66ec94980f"), looks := false }, kinds := [], alts := [], laidByText := true, laidKinds := [.data], laidTests := true, laidLooks := .later }
def RemoveNobodyCardSaid : Prop := Claim7.holds Tryd.pinned (.plain (OpenSpec.ofChange removeNobodySpec)) removeNobodyCard

/-- THE SECOND FORM's CARD OF 'leapfroglaw16.RemoveOnce'. -/
def removeOnceUptoCard : Claim7 := { stood := { row := removeOnceUptoRow, standIns := [], harness := (true, "c9a2b3d0e154508418fceefb317b2e1f920b0b39f99c4f00fa9afa66ec94980f"), looks := false }, kinds := [], alts := [], laidByText := true, laidKinds := [.data], laidTests := true, laidLooks := .later }
def RemoveOnceUptoCardSaid : Prop := Claim7.holds Tryd.pinned (.plain (OpenSpec.upto removeOnceSpec)) removeOnceUptoCard

/-- THE SECOND FORM's CARD OF 'leapfroglaw16.RemoveNobody'. -/
def removeNobodyUptoCard : Claim7 := { stood := { row := removeNobodyUptoRow, standIns := [], harness := (true, "c9a2b3d0e154508418fceefb317b2e1f920b0b39f99c4f00fa9afa66ec94980f"), looks := false }, kinds := [], alts := [], laidByText := true, laidKinds := [.data], laidTests := true, laidLooks := .later }
def RemoveNobodyUptoCardSaid : Prop := Claim7.holds Tryd.pinned (.plain (OpenSpec.upto removeNobodySpec)) removeNobodyUptoCard
end Rows
end Go.Proofs.YtokehogcenjefaaDoor
