/-
  NARROWER THAN 'FOR EVERY INPUT', by the rows' own cells (each row's printed sentence says how): PeerRuns: laid · PeerSorted: laid · PeerOnce: laid · PeerEach: laid · PeerNobody: laid.
  DERIVED. THE GIVEN ROWS OF THIS SEAT. 5 by the template 'for every input the law returns true; each argument reads behind the call as it read before'; 0 by the template 'total and deterministic' (their statements: YtdogdinkopocaaaGreatDoorTotals.lean).
  GIVEN WITH THE SEED: the statements are not yours to turn. If you find one false, say at which input.
  Laid BY PROGRAM, IN A SANDBOX (cutbox-rows.mjs): the forced cells as the released guide's own fill.sh prints them over the translation df74d0da3b85489b… (all of the seat's roots in one cut). By AI agents, Wed Nov 11 2026. No macro, syntax, notation, axiom, sorry.
-/
import Derived.Test.YtdogdinkopocaaaGreatDoorChecked
import GoSem.Claim
import GoSem.ClaimJoined
import GoSem.ClaimMapViews
import Derived.JoinedTies
import Derived.KernelRfl
namespace Go.Proofs.YtdogdinkopocaaaGreatDoor
/- THE CELL 'sum', in the pinned program and in every row, IS THE sha256 OF THE DUMP (.gsa) THAT YtdogdinkopocaaaGreatDoorProg.lean LOADS. Nothing in Lean hashes anything: it is a label: what it is worth is what the hold of that sum in a sandbox is worth. -/
noncomputable def Tryz.pinned : Pinned := { name := "ytdogdinkopocaaagreatdoor", sum := "df74d0da3b85489bb7db00627bc314ec39a0279a5f9aa1a28ea23a05b2c45d0c", checked := Tryz.checked }
namespace Rows
def none {H : Type} : Left H := { results := [], args := [] }

/- WHAT THE LISTED PACKAGE-LEVEL VARIABLES READ AS WHEN THE CALL BEGINS. Each datum BY PROGRAM (the guide's laid-datum.mjs) off the statement by which the dump's own 'gosem.cut.vars' lays the variable. In a bare row this is a premise. The card (YtdogdinkopocaaaGreatDoorCards.lean) ties it to the program's text. -/
def laid_leapfrog_key_ranks {H : Type} : DataW H := .agg [.agg [.lit (.int .i64 1), .lit (.string [45])], .agg [.lit (.int .i64 2), .lit (.string [])], .agg [.lit (.int .i64 3), .lit (.string [43])]]

/-- 'leapfroglaw09.PeerRuns': WHATEVER THE INPUT: true; the input reads as it did. -/
def peerRunsSpec : ChangeSpec := { name := "peerRuns", fn := fun _ => fun
  | [d1, d2, d3] => { results := [.lit (.bool true)], args := [d1, d2, d3] }
  | _ => none }
def peerRunsRow : OpenClaim := { program := "ytdogdinkopocaaagreatdoor", sum := "df74d0da3b85489bb7db00627bc314ec39a0279a5f9aa1a28ea23a05b2c45d0c", func := "leapfrog/leapfroglaw09.PeerRuns", spec := "peerRuns", unfollowed := true, recurses := true, named := ["leapfrog/key.ranks"], plainKeys := false, apart := false, laid := [("leapfrog/key.ranks", laid_leapfrog_key_ranks)] }
def PeerRunsSaid : Prop := peerRunsRow.holds Tryz.pinned (OpenSpec.ofChange peerRunsSpec)

/-- ITS FALSE NEIGHBOUR: 'it returns false'. Refute it at one input. -/
def peerRunsWrong : ChangeSpec := { name := "peerRuns", fn := fun _ => fun
  | [d1, d2, d3] => { results := [.lit (.bool false)], args := [d1, d2, d3] }
  | _ => none }
def PeerRunsWrongFalsely : Prop := peerRunsRow.holds Tryz.pinned (OpenSpec.ofChange peerRunsWrong)

/-- 'leapfroglaw09.PeerSorted': WHATEVER THE INPUT: true; the input reads as it did. -/
def peerSortedSpec : ChangeSpec := { name := "peerSorted", fn := fun _ => fun
  | [d1, d2] => { results := [.lit (.bool true)], args := [d1, d2] }
  | _ => none }
def peerSortedRow : OpenClaim := { program := "ytdogdinkopocaaagreatdoor", sum := "df74d0da3b85489bb7db00627bc314ec39a0279a5f9aa1a28ea23a05b2c45d0c", func := "leapfrog/leapfroglaw09.PeerSorted", spec := "peerSorted", unfollowed := true, recurses := true, named := ["leapfrog/key.ranks"], plainKeys := false, apart := false, laid := [("leapfrog/key.ranks", laid_leapfrog_key_ranks)] }
def PeerSortedSaid : Prop := peerSortedRow.holds Tryz.pinned (OpenSpec.ofChange peerSortedSpec)

/-- ITS FALSE NEIGHBOUR: 'it returns false'. Refute it at one input. -/
def peerSortedWrong : ChangeSpec := { name := "peerSorted", fn := fun _ => fun
  | [d1, d2] => { results := [.lit (.bool false)], args := [d1, d2] }
  | _ => none }
def PeerSortedWrongFalsely : Prop := peerSortedRow.holds Tryz.pinned (OpenSpec.ofChange peerSortedWrong)

/-- 'leapfroglaw09.PeerOnce': WHATEVER THE INPUT: true; the input reads as it did. -/
def peerOnceSpec : ChangeSpec := { name := "peerOnce", fn := fun _ => fun
  | [d1, d2] => { results := [.lit (.bool true)], args := [d1, d2] }
  | _ => none }
def peerOnceRow : OpenClaim := { program := "ytdogdinkopocaaagreatdoor", sum := "df74d0da3b85489bb7db00627bc314ec39a0279a5f9aa1a28ea23a05b2c45d0c", func := "leapfrog/leapfroglaw09.PeerOnce", spec := "peerOnce", unfollowed := true, recurses := true, named := ["leapfrog/key.ranks"], plainKeys := false, apart := false, laid := [("leapfrog/key.ranks", laid_leapfrog_key_ranks)] }
def PeerOnceSaid : Prop := peerOnceRow.holds Tryz.pinned (OpenSpec.ofChange peerOnceSpec)

/-- ITS FALSE NEIGHBOUR: 'it returns false'. Refute it at one input. -/
def peerOnceWrong : ChangeSpec := { name := "peerOnce", fn := fun _ => fun
  | [d1, d2] => { results := [.lit (.bool false)], args := [d1, d2] }
  | _ => none }
def PeerOnceWrongFalsely : Prop := peerOnceRow.holds Tryz.pinned (OpenSpec.ofChange peerOnceWrong)

/-- 'leapfroglaw09.PeerEach': WHATEVER THE INPUT: true; the input reads as it did. -/
def peerEachSpec : ChangeSpec := { name := "peerEach", fn := fun _ => fun
  | [d1, d2] => { results := [.lit (.bool true)], args := [d1, d2] }
  | _ => none }
def peerEachRow : OpenClaim := { program := "ytdogdinkopocaaagreatdoor", sum := "df74d0da3b85489bb7db00627bc314ec39a0279a5f9aa1a28ea23a05b2c45d0c", func := "leapfrog/leapfroglaw09.PeerEach", spec := "peerEach", unfollowed := true, recurses := true, named := ["leapfrog/key.ranks"], plainKeys := false, apart := false, laid := [("leapfrog/key.ranks", laid_leapfrog_key_ranks)] }
def PeerEachSaid : Prop := peerEachRow.holds Tryz.pinned (OpenSpec.ofChange peerEachSpec)

/-- ITS FALSE NEIGHBOUR: 'it returns false'. Refute it at one input. -/
def peerEachWrong : ChangeSpec := { name := "peerEach", fn := fun _ => fun
  | [d1, d2] => { results := [.lit (.bool false)], args := [d1, d2] }
  | _ => none }
def PeerEachWrongFalsely : Prop := peerEachRow.holds Tryz.pinned (OpenSpec.ofChange peerEachWrong)

/-- 'leapfroglaw09.PeerNobody': WHATEVER THE INPUT: true; the input reads as it did. -/
def peerNobodySpec : ChangeSpec := { name := "peerNobody", fn := fun _ => fun
  | [d1, d2] => { results := [.lit (.bool true)], args := [d1, d2] }
  | _ => none }
def peerNobodyRow : OpenClaim := { program := "ytdogdinkopocaaagreatdoor", sum := "df74d0da3b85489bb7db00627bc314ec39a0279a5f9aa1a28ea23a05b2c45d0c", func := "leapfrog/leapfroglaw09.PeerNobody", spec := "peerNobody", unfollowed := true, recurses := true, named := ["leapfrog/key.ranks"], plainKeys := false, apart := false, laid := [("leapfrog/key.ranks", laid_leapfrog_key_ranks)] }
def PeerNobodySaid : Prop := peerNobodyRow.holds Tryz.pinned (OpenSpec.ofChange peerNobodySpec)

/-- ITS FALSE NEIGHBOUR: 'it returns false'. Refute it at one input. -/
def peerNobodyWrong : ChangeSpec := { name := "peerNobody", fn := fun _ => fun
  | [d1, d2] => { results := [.lit (.bool false)], args := [d1, d2] }
  | _ => none }
def PeerNobodyWrongFalsely : Prop := peerNobodyRow.holds Tryz.pinned (OpenSpec.ofChange peerNobodyWrong)

/- THE SECOND FORM. 'bulk': how many values and letters a reading holds, each counted each time it is reached (what is shared counts as often as it is met; a slice's spare places count too). A statement '..UptoSaid' is the law's where the arguments, and the package variables that the reading takes, are together of bulk at most 1048576: NARROWER than '..Said'. Prove '..Said' where nothing that the law and all that it calls make is longer than what came in: it says more and counts as full. Else prove '..UptoSaid'. A law counts once. -/
mutual
def uptoBulk {H : Type} : DataW H → Nat
  | .lit (.string bytes) => bytes.length + 1
  | .lit _ => 1
  | .nil => 1
  | .ptr d => uptoBulk d + 1
  | .slice elems spare => uptoBulkAll elems + uptoBulkAll spare + 1
  | .agg parts => uptoBulkAll parts + 1
  | .iface _ d => uptoBulk d + 1
  | .map entries => uptoBulkEntries entries + 1
  | .held _ => 1
def uptoBulkAll {H : Type} : List (DataW H) → Nat
  | [] => 0
  | d :: r => uptoBulk d + uptoBulkAll r
def uptoBulkEntries {H : Type} : List (Lit × DataW H) → Nat
  | [] => 0
  | x :: r => uptoBulkEntry x + uptoBulkEntries r
def uptoBulkEntry {H : Type} : Lit × DataW H → Nat
  | (.string bytes, d) => bytes.length + uptoBulk d + 1
  | (_, d) => uptoBulk d + 1
 end
def uptoSmall : (H : Type) → List (DataW H) → Bool := fun _ ds => decide (uptoBulkAll ds ≤ 1048576)
def OpenSpec.upto (s : _root_.Go.ChangeSpec) : _root_.Go.OpenSpec := { _root_.Go.OpenSpec.ofChange s with cond := some uptoSmall }

/-- 'leapfroglaw09.PeerRuns', WHERE WHAT IT READS IS OF BULK AT MOST 1048576: true; the input reads as it did. -/
def peerRunsUptoRow : OpenClaim := { program := "ytdogdinkopocaaagreatdoor", sum := "df74d0da3b85489bb7db00627bc314ec39a0279a5f9aa1a28ea23a05b2c45d0c", func := "leapfrog/leapfroglaw09.PeerRuns", spec := "peerRuns", unfollowed := true, recurses := true, named := ["leapfrog/key.ranks"], plainKeys := false, apart := false, laid := [("leapfrog/key.ranks", laid_leapfrog_key_ranks)], narrowed := true }
def PeerRunsUptoSaid : Prop := peerRunsUptoRow.holds Tryz.pinned (OpenSpec.upto peerRunsSpec)

/-- 'leapfroglaw09.PeerSorted', WHERE WHAT IT READS IS OF BULK AT MOST 1048576: true; the input reads as it did. -/
def peerSortedUptoRow : OpenClaim := { program := "ytdogdinkopocaaagreatdoor", sum := "df74d0da3b85489bb7db00627bc314ec39a0279a5f9aa1a28ea23a05b2c45d0c", func := "leapfrog/leapfroglaw09.PeerSorted", spec := "peerSorted", unfollowed := true, recurses := true, named := ["leapfrog/key.ranks"], plainKeys := false, apart := false, laid := [("leapfrog/key.ranks", laid_leapfrog_key_ranks)], narrowed := true }
def PeerSortedUptoSaid : Prop := peerSortedUptoRow.holds Tryz.pinned (OpenSpec.upto peerSortedSpec)

/-- 'leapfroglaw09.PeerOnce', WHERE WHAT IT READS IS OF BULK AT MOST 1048576: true; the input reads as it did. -/
def peerOnceUptoRow : OpenClaim := { program := "ytdogdinkopocaaagreatdoor", sum := "df74d0da3b85489bb7db00627bc314ec39a0279a5f9aa1a28ea23a05b2c45d0c", func := "leapfrog/leapfroglaw09.PeerOnce", spec := "peerOnce", unfollowed := true, recurses := true, named := ["leapfrog/key.ranks"], plainKeys := false, apart := false, laid := [("leapfrog/key.ranks", laid_leapfrog_key_ranks)], narrowed := true }
def PeerOnceUptoSaid : Prop := peerOnceUptoRow.holds Tryz.pinned (OpenSpec.upto peerOnceSpec)

/-- 'leapfroglaw09.PeerEach', WHERE WHAT IT READS IS OF BULK AT MOST 1048576: true; the input reads as it did. -/
def peerEachUptoRow : OpenClaim := { program := "ytdogdinkopocaaagreatdoor", sum := "df74d0da3b85489bb7db00627bc314ec39a0279a5f9aa1a28ea23a05b2c45d0c", func := "leapfrog/leapfroglaw09.PeerEach", spec := "peerEach", unfollowed := true, recurses := true, named := ["leapfrog/key.ranks"], plainKeys := false, apart := false, laid := [("leapfrog/key.ranks", laid_leapfrog_key_ranks)], narrowed := true }
def PeerEachUptoSaid : Prop := peerEachUptoRow.holds Tryz.pinned (OpenSpec.upto peerEachSpec)

/-- 'leapfroglaw09.PeerNobody', WHERE WHAT IT READS IS OF BULK AT MOST 1048576: true; the input reads as it did. -/
def peerNobodyUptoRow : OpenClaim := { program := "ytdogdinkopocaaagreatdoor", sum := "df74d0da3b85489bb7db00627bc314ec39a0279a5f9aa1a28ea23a05b2c45d0c", func := "leapfrog/leapfroglaw09.PeerNobody", spec := "peerNobody", unfollowed := true, recurses := true, named := ["leapfrog/key.ranks"], plainKeys := false, apart := false, laid := [("leapfrog/key.ranks", laid_leapfrog_key_ranks)], narrowed := true }
def PeerNobodyUptoSaid : Prop := peerNobodyUptoRow.holds Tryz.pinned (OpenSpec.upto peerNobodySpec)

end Rows
end Go.Proofs.YtdogdinkopocaaaGreatDoor
