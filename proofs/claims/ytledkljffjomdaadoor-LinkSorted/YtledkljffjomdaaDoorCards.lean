/-
  DERIVED. GIVEN WITH THE SEED: THE CARDS: each row of YtledkljffjomdaaDoorRows.lean that lists a variable, with what it lists TIED to the program's text (the seventh form; the later family's looks); each row that meets fmt, with fmt's text TOLD by the authors' own Lean function (tested against real Go, not proved from fmt's source: count such statements apart). THE CARD IS WHAT COUNTS. Prove the row's statement (the work); the ties are given (YtledkljffjomdaaDoorTie.lean); close each card by the builder's one call (the guide's Derived/Test/ToyasCard.lean, 'card_holds'). Laid BY PROGRAM, IN A SANDBOX (cutbox-door.mjs). By AI agents, Wed Nov 11 2026. No macro, syntax, notation, axiom, sorry.
-/
import Derived.Test.YtledkljffjomdaaDoorRows
import GoSem.ClaimSeven
namespace Go.Proofs.YtledkljffjomdaaDoor
namespace Rows

/-- THE TIED CARD OF 'leapfroglaw08.LinkSame'. -/
def linkSameCard : Claim7 := { stood := { row := linkSameRow, standIns := [], harness := (true, "d1e38381c0acbfec0f1459f95924080efbd0499ccd09dddc510f4ac69d6c6f76"), looks := false }, kinds := [], alts := [], laidByText := true, laidKinds := [.data], laidTests := true, laidLooks := .later }
def LinkSameCardSaid : Prop := Claim7.holds Tryd.pinned (.plain (OpenSpec.ofChange linkSameSpec)) linkSameCard

/-- THE TIED CARD OF 'leapfroglaw08.LinkSorted'. -/
def linkSortedCard : Claim7 := { stood := { row := linkSortedRow, standIns := [], harness := (true, "d1e38381c0acbfec0f1459f95924080efbd0499ccd09dddc510f4ac69d6c6f76"), looks := false }, kinds := [], alts := [], laidByText := true, laidKinds := [.data], laidTests := true, laidLooks := .later }
def LinkSortedCardSaid : Prop := Claim7.holds Tryd.pinned (.plain (OpenSpec.ofChange linkSortedSpec)) linkSortedCard

/-- THE TIED CARD OF 'leapfroglaw08.LinkApart'. -/
def linkApartCard : Claim7 := { stood := { row := linkApartRow, standIns := [], harness := (true, "d1e38381c0acbfec0f1459f95924080efbd0499ccd09dddc510f4ac69d6c6f76"), looks := false }, kinds := [], alts := [], laidByText := true, laidKinds := [.data], laidTests := true, laidLooks := .later }
def LinkApartCardSaid : Prop := Claim7.holds Tryd.pinned (.plain (OpenSpec.ofChange linkApartSpec)) linkApartCard

/-- THE TIED CARD OF 'leapfroglaw08.LinkAgain'. -/
def linkAgainCard : Claim7 := { stood := { row := linkAgainRow, standIns := [], harness := (true, "d1e38381c0acbfec0f1459f95924080efbd0499ccd09dddc510f4ac69d6c6f76"), looks := false }, kinds := [], alts := [], laidByText := true, laidKinds := [.data], laidTests := true, laidLooks := .later }
def LinkAgainCardSaid : Prop := Claim7.holds Tryd.pinned (.plain (OpenSpec.ofChange linkAgainSpec)) linkAgainCard

/-- THE TIED CARD OF 'leapfroglaw08.LinkNobody'. -/
def linkNobodyCard : Claim7 := { stood := { row := linkNobodyRow, standIns := [], harness := (true, "d1e38381c0acbfec0f1459f95924080efbd0499ccd09dddc510f4ac69d6c6f76"), looks := false }, kinds := [], alts := [], laidByText := true, laidKinds := [.data], laidTests := true, laidLooks := .later }
def LinkNobodyCardSaid : Prop := Claim7.holds Tryd.pinned (.plain (OpenSpec.ofChange linkNobodySpec)) linkNobodyCard

/-- THE SECOND FORM's CARD OF 'leapfroglaw08.LinkSame'. -/
def linkSameUptoCard : Claim7 := { stood := { row := linkSameUptoRow, standIns := [], harness := (true, "d1e38381c0acbfec0f1459f95924080efbd0499ccd09dddc510f4ac69d6c6f76"), looks := false }, kinds := [], alts := [], laidByText := true, laidKinds := [.data], laidTests := true, laidLooks := .later }
def LinkSameUptoCardSaid : Prop := Claim7.holds Tryd.pinned (.plain (OpenSpec.upto linkSameSpec)) linkSameUptoCard

/-- THE SECOND FORM's CARD OF 'leapfroglaw08.LinkSorted'. -/
def linkSortedUptoCard : Claim7 := { stood := { row := linkSortedUptoRow, standIns := [], harness := (true, "d1e38381c0acbfec0f1459f95924080efbd0499ccd09dddc510f4ac69d6c6f76"), looks := false }, kinds := [], alts := [], laidByText := true, laidKinds := [.data], laidTests := true, laidLooks := .later }
def LinkSortedUptoCardSaid : Prop := Claim7.holds Tryd.pinned (.plain (OpenSpec.upto linkSortedSpec)) linkSortedUptoCard

/-- THE SECOND FORM's CARD OF 'leapfroglaw08.LinkApart'. -/
def linkApartUptoCard : Claim7 := { stood := { row := linkApartUptoRow, standIns := [], harness := (true, "d1e38381c0acbfec0f1459f95924080efbd0499ccd09dddc510f4ac69d6c6f76"), looks := false }, kinds := [], alts := [], laidByText := true, laidKinds := [.data], laidTests := true, laidLooks := .later }
def LinkApartUptoCardSaid : Prop := Claim7.holds Tryd.pinned (.plain (OpenSpec.upto linkApartSpec)) linkApartUptoCard

/-- THE SECOND FORM's CARD OF 'leapfroglaw08.LinkAgain'. -/
def linkAgainUptoCard : Claim7 := { stood := { row := linkAgainUptoRow, standIns := [], harness := (true, "d1e38381c0acbfec0f1459f95924080efbd0499ccd09dddc510f4ac69d6c6f76"), looks := false }, kinds := [], alts := [], laidByText := true, laidKinds := [.data], laidTests := true, laidLooks := .later }
def LinkAgainUptoCardSaid : Prop := Claim7.holds Tryd.pinned (.plain (OpenSpec.upto linkAgainSpec)) linkAgainUptoCard

/-- THE SECOND FORM's CARD OF 'leapfroglaw08.LinkNobody'. -/
def linkNobodyUptoCard : Claim7 := { stood := { row := linkNobodyUptoRow, standIns := [], harness := (true, "d1e38381c0acbfec0f1459f95924080efbd0499ccd09dddc510f4ac69d6c6f76"), looks := false }, kinds := [], alts := [], laidByText := true, laidKinds := [.data], laidTests := true, laidLooks := .later }
def LinkNobodyUptoCardSaid : Prop := Claim7.holds Tryd.pinned (.plain (OpenSpec.upto linkNobodySpec)) linkNobodyUptoCard
end Rows
end Go.Proofs.YtledkljffjomdaaDoor
