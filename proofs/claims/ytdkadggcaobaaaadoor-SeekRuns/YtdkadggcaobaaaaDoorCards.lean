/-
  DERIVED. GIVEN WITH THE SEED: THE CARDS: each row of YtdkadggcaobaaaaDoorRows.lean that lists a variable, with what it lists TIED to the program's text (the seventh form; the later family's looks); each row that meets fmt, with fmt's text TOLD by the authors' own Lean function (tested against real Go, not proved from fmt's source: count such statements apart). THE CARD IS WHAT COUNTS. Prove the row's statement (the work); the ties are given (YtdkadggcaobaaaaDoorTie.lean); close each card by the builder's one call (the guide's Derived/Test/ToyasCard.lean, 'card_holds'). Laid BY PROGRAM, IN A SANDBOX (cutbox-door.mjs). By AI agents, Wed Nov 11 2026. No macro, syntax, notation, axiom, sorry.
-/
import Derived.Test.YtdkadggcaobaaaaDoorRows
import GoSem.ClaimSeven
namespace Go.Proofs.YtdkadggcaobaaaaDoor
namespace Rows

/-- THE TIED CARD OF 'leapfroglaw12.SeekRuns'. -/
def seekRunsCard : Claim7 := { stood := { row := seekRunsRow, standIns := [], harness := (true, "5f8c9c58c0e5db6018757ea66bb7996725fef116294aadb47fa977e247ab7a20"), looks := false }, kinds := [], alts := [], laidByText := true, laidKinds := [.data], laidTests := true, laidLooks := .later }
def SeekRunsCardSaid : Prop := Claim7.holds Tryd.pinned (.plain (OpenSpec.ofChange seekRunsSpec)) seekRunsCard

/-- THE TIED CARD OF 'leapfroglaw12.SeekFinds'. -/
def seekFindsCard : Claim7 := { stood := { row := seekFindsRow, standIns := [], harness := (true, "5f8c9c58c0e5db6018757ea66bb7996725fef116294aadb47fa977e247ab7a20"), looks := false }, kinds := [], alts := [], laidByText := true, laidKinds := [.data], laidTests := true, laidLooks := .later }
def SeekFindsCardSaid : Prop := Claim7.holds Tryd.pinned (.plain (OpenSpec.ofChange seekFindsSpec)) seekFindsCard

/-- THE TIED CARD OF 'leapfroglaw12.SeekDead'. -/
def seekDeadCard : Claim7 := { stood := { row := seekDeadRow, standIns := [], harness := (true, "5f8c9c58c0e5db6018757ea66bb7996725fef116294aadb47fa977e247ab7a20"), looks := false }, kinds := [], alts := [], laidByText := true, laidKinds := [.data], laidTests := true, laidLooks := .later }
def SeekDeadCardSaid : Prop := Claim7.holds Tryd.pinned (.plain (OpenSpec.ofChange seekDeadSpec)) seekDeadCard

/-- THE TIED CARD OF 'leapfroglaw12.SeekPasses'. -/
def seekPassesCard : Claim7 := { stood := { row := seekPassesRow, standIns := [], harness := (true, "5f8c9c58c0e5db6018757ea66bb7996725fef116294aadb47fa977e247ab7a20"), looks := false }, kinds := [], alts := [], laidByText := true, laidKinds := [.data], laidTests := true, laidLooks := .later }
def SeekPassesCardSaid : Prop := Claim7.holds Tryd.pinned (.plain (OpenSpec.ofChange seekPassesSpec)) seekPassesCard

/-- THE SECOND FORM's CARD OF 'leapfroglaw12.SeekRuns'. -/
def seekRunsUptoCard : Claim7 := { stood := { row := seekRunsUptoRow, standIns := [], harness := (true, "5f8c9c58c0e5db6018757ea66bb7996725fef116294aadb47fa977e247ab7a20"), looks := false }, kinds := [], alts := [], laidByText := true, laidKinds := [.data], laidTests := true, laidLooks := .later }
def SeekRunsUptoCardSaid : Prop := Claim7.holds Tryd.pinned (.plain (OpenSpec.upto seekRunsSpec)) seekRunsUptoCard

/-- THE SECOND FORM's CARD OF 'leapfroglaw12.SeekFinds'. -/
def seekFindsUptoCard : Claim7 := { stood := { row := seekFindsUptoRow, standIns := [], harness := (true, "5f8c9c58c0e5db6018757ea66bb7996725fef116294aadb47fa977e247ab7a20"), looks := false }, kinds := [], alts := [], laidByText := true, laidKinds := [.data], laidTests := true, laidLooks := .later }
def SeekFindsUptoCardSaid : Prop := Claim7.holds Tryd.pinned (.plain (OpenSpec.upto seekFindsSpec)) seekFindsUptoCard

/-- THE SECOND FORM's CARD OF 'leapfroglaw12.SeekDead'. -/
def seekDeadUptoCard : Claim7 := { stood := { row := seekDeadUptoRow, standIns := [], harness := (true, "5f8c9c58c0e5db6018757ea66bb7996725fef116294aadb47fa977e247ab7a20"), looks := false }, kinds := [], alts := [], laidByText := true, laidKinds := [.data], laidTests := true, laidLooks := .later }
def SeekDeadUptoCardSaid : Prop := Claim7.holds Tryd.pinned (.plain (OpenSpec.upto seekDeadSpec)) seekDeadUptoCard

/-- THE SECOND FORM's CARD OF 'leapfroglaw12.SeekPasses'. -/
def seekPassesUptoCard : Claim7 := { stood := { row := seekPassesUptoRow, standIns := [], harness := (true, "5f8c9c58c0e5db6018757ea66bb7996725fef116294aadb47fa977e247ab7a20"), looks := false }, kinds := [], alts := [], laidByText := true, laidKinds := [.data], laidTests := true, laidLooks := .later }
def SeekPassesUptoCardSaid : Prop := Claim7.holds Tryd.pinned (.plain (OpenSpec.upto seekPassesSpec)) seekPassesUptoCard
end Rows
end Go.Proofs.YtdkadggcaobaaaaDoor
