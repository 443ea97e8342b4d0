/-
  DERIVED. GIVEN WITH THE SEED: THE CARDS: each row of YtofmommoeligoaaDoorRows.lean that lists a variable, with what it lists TIED to the program's text (the seventh form; the later family's looks); each row that meets fmt, with fmt's text TOLD by the authors' own Lean function (tested against real Go, not proved from fmt's source: count such statements apart). THE CARD IS WHAT COUNTS. Prove the row's statement (the work); the ties are given (YtofmommoeligoaaDoorTie.lean); close each card by the builder's one call (the guide's Derived/Test/ToyasCard.lean, 'card_holds'). Laid BY PROGRAM, IN A SANDBOX (cutbox-door.mjs). By AI agents, Wed Nov 11 2026. No macro, syntax, notation, axiom, sorry.
-/
import Derived.Test.YtofmommoeligoaaDoorRows
import GoSem.ClaimSeven
namespace Go.Proofs.YtofmommoeligoaaDoor
namespace Rows

/-- THE TIED CARD OF 'leapfroglaw13.SpliceRuns'. -/
def spliceRunsCard : Claim7 := { stood := { row := spliceRunsRow, standIns := [], harness := (true, "ebd08cee91367204b0261d4f2148fd7254bf5c437ab56abccb60190015c508cb"), looks := false }, kinds := [], alts := [], laidByText := true, laidKinds := [.data], laidTests := true, laidLooks := .later }
def SpliceRunsCardSaid : Prop := Claim7.holds Tryd.pinned (.plain (OpenSpec.ofChange spliceRunsSpec)) spliceRunsCard

/-- THE TIED CARD OF 'leapfroglaw13.SpliceIn'. -/
def spliceInCard : Claim7 := { stood := { row := spliceInRow, standIns := [], harness := (true, "ebd08cee91367204b0261d4f2148fd7254bf5c437ab56abccb60190015c508cb"), looks := false }, kinds := [], alts := [], laidByText := true, laidKinds := [.data], laidTests := true, laidLooks := .later }
def SpliceInCardSaid : Prop := Claim7.holds Tryd.pinned (.plain (OpenSpec.ofChange spliceInSpec)) spliceInCard

/-- THE TIED CARD OF 'leapfroglaw13.SpliceFrees'. -/
def spliceFreesCard : Claim7 := { stood := { row := spliceFreesRow, standIns := [], harness := (true, "ebd08cee91367204b0261d4f2148fd7254bf5c437ab56abccb60190015c508cb"), looks := false }, kinds := [], alts := [], laidByText := true, laidKinds := [.data], laidTests := true, laidLooks := .later }
def SpliceFreesCardSaid : Prop := Claim7.holds Tryd.pinned (.plain (OpenSpec.ofChange spliceFreesSpec)) spliceFreesCard

/-- THE TIED CARD OF 'leapfroglaw13.SpliceRises'. -/
def spliceRisesCard : Claim7 := { stood := { row := spliceRisesRow, standIns := [], harness := (true, "ebd08cee91367204b0261d4f2148fd7254bf5c437ab56abccb60190015c508cb"), looks := false }, kinds := [], alts := [], laidByText := true, laidKinds := [.data], laidTests := true, laidLooks := .later }
def SpliceRisesCardSaid : Prop := Claim7.holds Tryd.pinned (.plain (OpenSpec.ofChange spliceRisesSpec)) spliceRisesCard

/-- THE TIED CARD OF 'leapfroglaw13.SpliceNobody'. -/
def spliceNobodyCard : Claim7 := { stood := { row := spliceNobodyRow, standIns := [], harness := (true, "ebd08cee91367204b0261d4f2148fd7254bf5c437ab56abccb60190015c508cb"), looks := false }, kinds := [], alts := [], laidByText := true, laidKinds := [.data], laidTests := true, laidLooks := .later }
def SpliceNobodyCardSaid : Prop := Claim7.holds Tryd.pinned (.plain (OpenSpec.ofChange spliceNobodySpec)) spliceNobodyCard

/-- THE SECOND FORM's CARD OF 'leapfroglaw13.SpliceRuns'. -/
def spliceRunsUptoCard : Claim7 := { stood := { row := spliceRunsUptoRow, standIns := [], harness := (true, "ebd08cee91367204b0261d4f2148fd7254bf5c437ab56abccb60190015c508cb"), looks := false }, kinds := [], alts := [], laidByText := true, laidKinds := [.data], laidTests := true, laidLooks := .later }
def SpliceRunsUptoCardSaid : Prop := Claim7.holds Tryd.pinned (.plain (OpenSpec.upto spliceRunsSpec)) spliceRunsUptoCard

/-- THE SECOND FORM's CARD OF 'leapfroglaw13.SpliceIn'. -/
def spliceInUptoCard : Claim7 := { stood := { row := spliceInUptoRow, standIns := [], harness := (true, "ebd08cee91367204b0261d4f2148fd7254bf5c437ab56abccb60190015c508cb"), looks := false }, kinds := [], alts := [], laidByText := true, laidKinds := [.data], laidTests := true, laidLooks := .later }
def SpliceInUptoCardSaid : Prop := Claim7.holds Tryd.pinned (.plain (OpenSpec.upto spliceInSpec)) spliceInUptoCard

/-- THE SECOND FORM's CARD OF 'leapfroglaw13.SpliceFrees'. -/
def spliceFreesUptoCard : Claim7 := { stood := { row := spliceFreesUptoRow, standIns := [], harness := (true, "ebd08cee91367204b0261d4f2148fd7254bf5c437ab56abccb60190015c508cb"), looks := false }, kinds := [], alts := [], laidByText := true, laidKinds := [.data], laidTests := true, laidLooks := .later }
def SpliceFreesUptoCardSaid : Prop := Claim7.holds Tryd.pinned (.plain (OpenSpec.upto spliceFreesSpec)) spliceFreesUptoCard

/-- THE SECOND FORM's CARD OF 'leapfroglaw13.SpliceRises'. -/
def spliceRisesUptoCard : Claim7 := { stood := { row := spliceRisesUptoRow, standIns := [], harness := (true, "ebd08cee91367204b0261d4f2148fd7254bf5c437ab56abccb60190015c508cb"), looks := false }, kinds := [], alts := [], laidByText := true, laidKinds := [.data], laidTests := true, laidLooks := .later }
def SpliceRisesUptoCardSaid : Prop := Claim7.holds Tryd.pinned (.plain (OpenSpec.upto spliceRisesSpec)) spliceRisesUptoCard

/-- THE SECOND FORM's CARD OF 'leapfroglaw13.SpliceNobody'. -/
def spliceNobodyUptoCard : Claim7 := { stood := { row := spliceNobodyUptoRow, standIns := [], harness := (true, "ebd08cee91367204b0261d4f2148fd7254bf5c437ab56abccb60190015c508cb"), looks := false }, kinds := [], alts := [], laidByText := true, laidKinds := [.data], laidTests := true, laidLooks := .later }
def SpliceNobodyUptoCardSaid : Prop := Claim7.holds Tryd.pinned (.plain (OpenSpec.upto spliceNobodySpec)) spliceNobodyUptoCard
end Rows
end Go.Proofs.YtofmommoeligoaaDoor
