/-
  NARROWER THAN 'FOR EVERY INPUT', by the rows' own cells (each row's printed sentence says how): SeekRuns: laid · SeekFinds: laid · SeekDead: laid · SeekPasses: laid.
  DERIVED. THE GIVEN ROWS OF THIS SEAT. 4 by the template 'for every input the law returns true; each argument reads behind the call as it read before'; 0 by the template 'total and deterministic' (their statements: YtdkadggcaobaaaaDoorTotals.lean).
  GIVEN WITH THE SEED: the statements are not yours to turn. If you find one false, say at which input.
  Laid BY PROGRAM, IN A SANDBOX (cutbox-rows.mjs): the forced cells as the released guide's own fill.sh prints them over the translation 8a4f48431a39a18d… (all of the seat's roots in one cut). By AI agents, Wed Nov 11 2026. No macro, syntax, notation, axiom, sorry.
-/
import Derived.Test.YtdkadggcaobaaaaDoorChecked
import GoSem.Claim
import GoSem.ClaimJoined
import GoSem.ClaimMapViews
import Derived.JoinedTies
import Derived.KernelRfl
namespace Go.Proofs.YtdkadggcaobaaaaDoor
/- THE CELL 'sum', in the pinned program and in every row, IS THE sha256 OF THE DUMP (.gsa) THAT YtdkadggcaobaaaaDoorProg.lean LOADS. Nothing in Lean hashes anything: it is a label: what it is worth is what the hold of that sum in a sandbox is worth. -/
noncomputable def Tryd.pinned : Pinned := { name := "ytdkadggcaobaaaadoor", sum := "8a4f48431a39a18dee57a0cbc82ae92674b1d38c12ab234ea56a6cf05217343a", checked := Tryd.checked }
namespace Rows
def none {H : Type} : Left H := { results := [], args := [] }

/- WHAT THE LISTED PACKAGE-LEVEL VARIABLES READ AS WHEN THE CALL BEGINS. Each datum BY PROGRAM (the guide's laid-datum.mjs) off the statement by which the dump's own 'gosem.cut.vars' lays the variable. In a bare row this is a premise. The card (YtdkadggcaobaaaaDoorCards.lean) ties it to the program's text. -/
def laid_leapfrog_key_ranks {H : Type} : DataW H := .agg [.agg [.lit (.int .i64 1), .lit (.string [45])], .agg [.lit (.int .i64 2), .lit (.string [])], .agg [.lit (.int .i64 3), .lit (.string [43])]]

/-- 'leapfroglaw12.SeekRuns': WHATEVER THE INPUT: true; the input reads as it did. -/
def seekRunsSpec : ChangeSpec := { name := "seekRuns", fn := fun _ => fun
  | [d1, d2] => { results := [.lit (.bool true)], args := [d1, d2] }
  | _ => none }
def seekRunsRow : OpenClaim := { program := "ytdkadggcaobaaaadoor", sum := "8a4f48431a39a18dee57a0cbc82ae92674b1d38c12ab234ea56a6cf05217343a", func := "leapfrog/leapfroglaw12.SeekRuns", spec := "seekRuns", named := ["leapfrog/key.ranks"], plainKeys := false, apart := false, laid := [("leapfrog/key.ranks", laid_leapfrog_key_ranks)] }
def SeekRunsSaid : Prop := seekRunsRow.holds Tryd.pinned (OpenSpec.ofChange seekRunsSpec)

/-- ITS FALSE NEIGHBOUR: 'it returns false'. Refute it at one input. -/
def seekRunsWrong : ChangeSpec := { name := "seekRuns", fn := fun _ => fun
  | [d1, d2] => { results := [.lit (.bool false)], args := [d1, d2] }
  | _ => none }
def SeekRunsWrongFalsely : Prop := seekRunsRow.holds Tryd.pinned (OpenSpec.ofChange seekRunsWrong)

/-- 'leapfroglaw12.SeekFinds': WHATEVER THE INPUT: true; the input reads as it did. -/
def seekFindsSpec : ChangeSpec := { name := "seekFinds", fn := fun _ => fun
  | [d1, d2, d3, d4, d5] => { results := [.lit (.bool true)], args := [d1, d2, d3, d4, d5] }
  | _ => none }
def seekFindsRow : OpenClaim := { program := "ytdkadggcaobaaaadoor", sum := "8a4f48431a39a18dee57a0cbc82ae92674b1d38c12ab234ea56a6cf05217343a", func := "leapfrog/leapfroglaw12.SeekFinds", spec := "seekFinds", named := ["leapfrog/key.ranks"], plainKeys := false, apart := false, laid := [("leapfrog/key.ranks", laid_leapfrog_key_ranks)] }
def SeekFindsSaid : Prop := seekFindsRow.holds Tryd.pinned (OpenSpec.ofChange seekFindsSpec)

/-- ITS FALSE NEIGHBOUR: 'it returns false'. Refute it at one input. -/
def seekFindsWrong : ChangeSpec := { name := "seekFinds", fn := fun _ => fun
  | [d1, d2, d3, d4, d5] => { results := [.lit (.bool false)], args := [d1, d2, d3, d4, d5] }
  | _ => none }
def SeekFindsWrongFalsely : Prop := seekFindsRow.holds Tryd.pinned (OpenSpec.ofChange seekFindsWrong)

/-- 'leapfroglaw12.SeekDead': WHATEVER THE INPUT: true; the input reads as it did. -/
def seekDeadSpec : ChangeSpec := { name := "seekDead", fn := fun _ => fun
  | [d1, d2, d3, d4, d5] => { results := [.lit (.bool true)], args := [d1, d2, d3, d4, d5] }
  | _ => none }
def seekDeadRow : OpenClaim := { program := "ytdkadggcaobaaaadoor", sum := "8a4f48431a39a18dee57a0cbc82ae92674b1d38c12ab234ea56a6cf05217343a", func := "leapfrog/leapfroglaw12.SeekDead", spec := "seekDead", named := ["leapfrog/key.ranks"], plainKeys := false, apart := false, laid := [("leapfrog/key.ranks", laid_leapfrog_key_ranks)] }
def SeekDeadSaid : Prop := seekDeadRow.holds Tryd.pinned (OpenSpec.ofChange seekDeadSpec)

/-- ITS FALSE NEIGHBOUR: 'it returns false'. Refute it at one input. -/
def seekDeadWrong : ChangeSpec := { name := "seekDead", fn := fun _ => fun
  | [d1, d2, d3, d4, d5] => { results := [.lit (.bool false)], args := [d1, d2, d3, d4, d5] }
  | _ => none }
def SeekDeadWrongFalsely : Prop := seekDeadRow.holds Tryd.pinned (OpenSpec.ofChange seekDeadWrong)

/-- 'leapfroglaw12.SeekPasses': WHATEVER THE INPUT: true; the input reads as it did. -/
def seekPassesSpec : ChangeSpec := { name := "seekPasses", fn := fun _ => fun
  | [d1, d2, d3, d4, d5] => { results := [.lit (.bool true)], args := [d1, d2, d3, d4, d5] }
  | _ => none }
def seekPassesRow : OpenClaim := { program := "ytdkadggcaobaaaadoor", sum := "8a4f48431a39a18dee57a0cbc82ae92674b1d38c12ab234ea56a6cf05217343a", func := "leapfrog/leapfroglaw12.SeekPasses", spec := "seekPasses", named := ["leapfrog/key.ranks"], plainKeys := false, apart := false, laid := [("leapfrog/key.ranks", laid_leapfrog_key_ranks)] }
def SeekPassesSaid : Prop := seekPassesRow.holds Tryd.pinned (OpenSpec.ofChange seekPassesSpec)

/-- ITS FALSE NEIGHBOUR: 'it returns false'. Refute it at one input. -/
def seekPassesWrong : ChangeSpec := { name := "seekPasses", fn := fun _ => fun
  | [d1, d2, d3, d4, d5] => { results := [.lit (.bool false)], args := [d1, d2, d3, d4, d5] }
  | _ => none }
def SeekPassesWrongFalsely : Prop := seekPassesRow.holds Tryd.pinned (OpenSpec.ofChange seekPassesWrong)

/- THE SECOND FORM. 'bulk': how many values and letters a reading holds, each counted each time it is reached (what is shared counts as often as it is met; a slice's spare places count too). A statement '..UptoSaid' is the law's where the arguments, and the package variables that the reading takes, are together of bulk at most 1048576: NARROWER than '..Said'. Prove '..Said' where nothing that the law and all that it calls make is longer than what came in: it says more and counts as full. Else prove '..UptoSaid'. A law counts once. -/
mutual
def uptoBulk {H : Type} : DataW H → Nat
  | .lit (.string bytes) => bytes.length + 1
  | .lit _ => 1
  | .nil => 1
  | .ptr d => uptoBulk d + 1
  | .slice elems spare => uptoBulkAll elems + uptoBulkAll spare + 1
  | .agg parts => uptoBulkAll parts + 1
  | .iface _ d => uptoBulk d + 1
  | .map entries => uptoBulkEntries entries + 1
  | .held _ => 1
def uptoBulkAll {H : Type} : List (DataW H) → Nat
  | [] => 0
  | d :: r => uptoBulk d + uptoBulkAll r
def uptoBulkEntries {H : Type} : List (Lit × DataW H) → Nat
  | [] => 0
  | x :: r => uptoBulkEntry x + uptoBulkEntries r
def uptoBulkEntry {H : Type} : Lit × DataW H → Nat
  | (.string bytes, d) => bytes.length + uptoBulk d + 1
  | (_, d) => uptoBulk d + 1
 end
def uptoSmall : (H : Type) → List (DataW H) → Bool := fun _ ds => decide (uptoBulkAll ds ≤ 1048576)
def OpenSpec.upto (s : _root_.Go.ChangeSpec) : _root_.Go.OpenSpec := { _root_.Go.OpenSpec.ofChange s with cond := some uptoSmall }

/-- 'leapfroglaw12.SeekRuns', WHERE WHAT IT READS IS OF BULK AT MOST 1048576: true; the input reads as it did. -/
def seekRunsUptoRow : OpenClaim := { program := "ytdkadggcaobaaaadoor", sum := "8a4f48431a39a18dee57a0cbc82ae92674b1d38c12ab234ea56a6cf05217343a", func := "leapfrog/leapfroglaw12.SeekRuns", spec := "seekRuns", named := ["leapfrog/key.ranks"], plainKeys := false, apart := false, laid := [("leapfrog/key.ranks", laid_leapfrog_key_ranks)], narrowed := true }
def SeekRunsUptoSaid : Prop := seekRunsUptoRow.holds Tryd.pinned (OpenSpec.upto seekRunsSpec)

/-- 'leapfroglaw12.SeekFinds', WHERE WHAT IT READS IS OF BULK AT MOST 1048576: true; the input reads as it did. -/
def seekFindsUptoRow : OpenClaim := { program := "ytdkadggcaobaaaadoor", sum := "8a4f48431a39a18dee57a0cbc82ae92674b1d38c12ab234ea56a6cf05217343a", func := "leapfrog/leapfroglaw12.SeekFinds", spec := "seekFinds", named := ["leapfrog/key.ranks"], plainKeys := false, apart := false, laid := [("leapfrog/key.ranks", laid_leapfrog_key_ranks)], narrowed := true }
def SeekFindsUptoSaid : Prop := seekFindsUptoRow.holds Tryd.pinned (OpenSpec.upto seekFindsSpec)

/-- 'leapfroglaw12.SeekDead', WHERE WHAT IT READS IS OF BULK AT MOST 1048576: true; the input reads as it did. -/
def seekDeadUptoRow : OpenClaim := { program := "ytdkadggcaobaaaadoor", sum := "8a4f48431a39a18dee57a0cbc82ae92674b1d38c12ab234ea56a6cf05217343a", func := "leapfrog/leapfroglaw12.SeekDead", spec := "seekDead", named := ["leapfrog/key.ranks"], plainKeys := false, apart := false, laid := [("leapfrog/key.ranks", laid_leapfrog_key_ranks)], narrowed := true }
def SeekDeadUptoSaid : Prop := seekDeadUptoRow.holds Tryd.pinned (OpenSpec.upto seekDeadSpec)

/-- 'leapfroglaw12.SeekPasses', WHERE WHAT IT READS IS OF BULK AT MOST 1048576: true; the input reads as it did. -/
def seekPassesUptoRow : OpenClaim := { program := "ytdkadggcaobaaaadoor", sum := "8a4f48431a39a18dee57a0cbc82ae92674b1d38c12ab234ea56a6cf05217343a", func := "leapfrog/leapfroglaw12.SeekPasses", spec := "seekPasses", named := ["leapfrog/key.ranks"], plainKeys := false, apart := false, laid := [("leapfrog/key.ranks", laid_leapfrog_key_ranks)], narrowed := true }
def SeekPassesUptoSaid : Prop := seekPassesUptoRow.holds Tryd.pinned (OpenSpec.upto seekPassesSpec)

end Rows
end Go.Proofs.YtdkadggcaobaaaaDoor
