/-
  No cell of these rows narrows 'for every input' (looked for: loops, veiled, ifaces, maps, wideKeys, modest, calm, conditions, laid).
  DERIVED. THE GIVEN ROWS OF THIS SEAT. 6 by the template 'for every input the law returns true; each argument reads behind the call as it read before'; 0 by the template 'total and deterministic' (their statements: YtapknlmplhjfeaaTotals.lean).
  GIVEN WITH THE SEED: the statements are not yours to turn. If you find one false, say at which input.
  Laid BY PROGRAM, IN A SANDBOX (cutbox-rows.mjs): the forced cells as the released guide's own fill.sh prints them over the translation 8e840a12a284edf8… (all of the seat's roots in one cut). By AI agents, Wed Nov 11 2026. No macro, syntax, notation, axiom, sorry.
-/
import Derived.Test.YtapknlmplhjfeaaChecked
import GoSem.Claim
import GoSem.ClaimJoined
import GoSem.ClaimMapViews
import Derived.JoinedTies
import Derived.KernelRfl
namespace Go.Proofs.Ytapknlmplhjfeaa
/- THE CELL 'sum', in the pinned program and in every row, IS THE sha256 OF THE DUMP (.gsa) THAT YtapknlmplhjfeaaProg.lean LOADS. Nothing in Lean hashes anything: it is a label: what it is worth is what the hold of that sum in a sandbox is worth. -/
noncomputable def Try.pinned : Pinned := { name := "ytapknlmplhjfeaa", sum := "8e840a12a284edf8f6b35ef650a209f9ab6cc9a426d640b85229178a6bde8594", checked := Try.checked }
namespace Rows
def none {H : Type} : Left H := { results := [], args := [] }

/-- 'leapfroglaw07.LockRuns': WHATEVER THE INPUT: true; the input reads as it did. -/
def lockRunsSpec : ChangeSpec := { name := "lockRuns", fn := fun _ => fun
  | [d] => { results := [.lit (.bool true)], args := [d] }
  | _ => none }
def lockRunsRow : OpenClaim := { program := "ytapknlmplhjfeaa", sum := "8e840a12a284edf8f6b35ef650a209f9ab6cc9a426d640b85229178a6bde8594", func := "leapfrog/leapfroglaw07.LockRuns", spec := "lockRuns", plainKeys := false, apart := false }
def LockRunsSaid : Prop := lockRunsRow.holds Try.pinned (OpenSpec.ofChange lockRunsSpec)

/-- ITS FALSE NEIGHBOUR: 'it returns false'. Refute it at one input. -/
def lockRunsWrong : ChangeSpec := { name := "lockRuns", fn := fun _ => fun
  | [d] => { results := [.lit (.bool false)], args := [d] }
  | _ => none }
def LockRunsWrongFalsely : Prop := lockRunsRow.holds Try.pinned (OpenSpec.ofChange lockRunsWrong)

/-- 'leapfroglaw07.LockFull': WHATEVER THE INPUT: true; the input reads as it did. -/
def lockFullSpec : ChangeSpec := { name := "lockFull", fn := fun _ => fun
  | [d] => { results := [.lit (.bool true)], args := [d] }
  | _ => none }
def lockFullRow : OpenClaim := { program := "ytapknlmplhjfeaa", sum := "8e840a12a284edf8f6b35ef650a209f9ab6cc9a426d640b85229178a6bde8594", func := "leapfrog/leapfroglaw07.LockFull", spec := "lockFull", plainKeys := false, apart := false }
def LockFullSaid : Prop := lockFullRow.holds Try.pinned (OpenSpec.ofChange lockFullSpec)

/-- ITS FALSE NEIGHBOUR: 'it returns false'. Refute it at one input. -/
def lockFullWrong : ChangeSpec := { name := "lockFull", fn := fun _ => fun
  | [d] => { results := [.lit (.bool false)], args := [d] }
  | _ => none }
def LockFullWrongFalsely : Prop := lockFullRow.holds Try.pinned (OpenSpec.ofChange lockFullWrong)

/-- 'leapfroglaw07.LockStuck': WHATEVER THE INPUT: true; the input reads as it did. -/
def lockStuckSpec : ChangeSpec := { name := "lockStuck", fn := fun _ => fun
  | [d] => { results := [.lit (.bool true)], args := [d] }
  | _ => none }
def lockStuckRow : OpenClaim := { program := "ytapknlmplhjfeaa", sum := "8e840a12a284edf8f6b35ef650a209f9ab6cc9a426d640b85229178a6bde8594", func := "leapfrog/leapfroglaw07.LockStuck", spec := "lockStuck", unfollowed := true, recurses := true, plainKeys := false, apart := false }
def LockStuckSaid : Prop := lockStuckRow.holds Try.pinned (OpenSpec.ofChange lockStuckSpec)

/-- ITS FALSE NEIGHBOUR: 'it returns false'. Refute it at one input. -/
def lockStuckWrong : ChangeSpec := { name := "lockStuck", fn := fun _ => fun
  | [d] => { results := [.lit (.bool false)], args := [d] }
  | _ => none }
def LockStuckWrongFalsely : Prop := lockStuckRow.holds Try.pinned (OpenSpec.ofChange lockStuckWrong)

/-- 'leapfroglaw07.LockTurns': WHATEVER THE INPUT: true; the input reads as it did. -/
def lockTurnsSpec : ChangeSpec := { name := "lockTurns", fn := fun _ => fun
  | [d] => { results := [.lit (.bool true)], args := [d] }
  | _ => none }
def lockTurnsRow : OpenClaim := { program := "ytapknlmplhjfeaa", sum := "8e840a12a284edf8f6b35ef650a209f9ab6cc9a426d640b85229178a6bde8594", func := "leapfrog/leapfroglaw07.LockTurns", spec := "lockTurns", plainKeys := false, apart := false }
def LockTurnsSaid : Prop := lockTurnsRow.holds Try.pinned (OpenSpec.ofChange lockTurnsSpec)

/-- ITS FALSE NEIGHBOUR: 'it returns false'. Refute it at one input. -/
def lockTurnsWrong : ChangeSpec := { name := "lockTurns", fn := fun _ => fun
  | [d] => { results := [.lit (.bool false)], args := [d] }
  | _ => none }
def LockTurnsWrongFalsely : Prop := lockTurnsRow.holds Try.pinned (OpenSpec.ofChange lockTurnsWrong)

/-- 'leapfroglaw07.LockRising': WHATEVER THE INPUT: true; the input reads as it did. -/
def lockRisingSpec : ChangeSpec := { name := "lockRising", fn := fun _ => fun
  | [d] => { results := [.lit (.bool true)], args := [d] }
  | _ => none }
def lockRisingRow : OpenClaim := { program := "ytapknlmplhjfeaa", sum := "8e840a12a284edf8f6b35ef650a209f9ab6cc9a426d640b85229178a6bde8594", func := "leapfrog/leapfroglaw07.LockRising", spec := "lockRising", unfollowed := true, recurses := true, plainKeys := false, apart := false }
def LockRisingSaid : Prop := lockRisingRow.holds Try.pinned (OpenSpec.ofChange lockRisingSpec)

/-- ITS FALSE NEIGHBOUR: 'it returns false'. Refute it at one input. -/
def lockRisingWrong : ChangeSpec := { name := "lockRising", fn := fun _ => fun
  | [d] => { results := [.lit (.bool false)], args := [d] }
  | _ => none }
def LockRisingWrongFalsely : Prop := lockRisingRow.holds Try.pinned (OpenSpec.ofChange lockRisingWrong)

/-- 'leapfroglaw07.LockNobody': WHATEVER THE INPUT: true; the input reads as it did. -/
def lockNobodySpec : ChangeSpec := { name := "lockNobody", fn := fun _ => fun
  | [d] => { results := [.lit (.bool true)], args := [d] }
  | _ => none }
def lockNobodyRow : OpenClaim := { program := "ytapknlmplhjfeaa", sum := "8e840a12a284edf8f6b35ef650a209f9ab6cc9a426d640b85229178a6bde8594", func := "leapfrog/leapfroglaw07.LockNobody", spec := "lockNobody", plainKeys := false, apart := false }
def LockNobodySaid : Prop := lockNobodyRow.holds Try.pinned (OpenSpec.ofChange lockNobodySpec)

/-- ITS FALSE NEIGHBOUR: 'it returns false'. Refute it at one input. -/
def lockNobodyWrong : ChangeSpec := { name := "lockNobody", fn := fun _ => fun
  | [d] => { results := [.lit (.bool false)], args := [d] }
  | _ => none }
def LockNobodyWrongFalsely : Prop := lockNobodyRow.holds Try.pinned (OpenSpec.ofChange lockNobodyWrong)

/- THE SECOND FORM. 'bulk': how many values and letters a reading holds, each counted each time it is reached (what is shared counts as often as it is met; a slice's spare places count too). A statement '..UptoSaid' is the law's where the arguments, and the package variables that the reading takes, are together of bulk at most 1048576: NARROWER than '..Said'. Prove '..Said' where nothing that the law and all that it calls make is longer than what came in: it says more and counts as full. Else prove '..UptoSaid'. A law counts once. -/
mutual
def uptoBulk {H : Type} : DataW H → Nat
  | .lit (.string bytes) => bytes.length + 1
  | .lit _ => 1
  | .nil => 1
  | .ptr d => uptoBulk d + 1
  | .slice elems spare => uptoBulkAll elems + uptoBulkAll spare + 1
  | .agg parts => uptoBulkAll parts + 1
  | .iface _ d => uptoBulk d + 1
  | .map entries => uptoBulkEntries entries + 1
  | .held _ => 1
def uptoBulkAll {H : Type} : List (DataW H) → Nat
  | [] => 0
  | d :: r => uptoBulk d + uptoBulkAll r
def uptoBulkEntries {H : Type} : List (Lit × DataW H) → Nat
  | [] => 0
  | x :: r => uptoBulkEntry x + uptoBulkEntries r
def uptoBulkEntry {H : Type} : Lit × DataW H → Nat
  | (.string bytes, d) => bytes.length + uptoBulk d + 1
  | (_, d) => uptoBulk d + 1
 end
def uptoSmall : (H : Type) → List (DataW H) → Bool := fun _ ds => decide (uptoBulkAll ds ≤ 1048576)
def OpenSpec.upto (s : _root_.Go.ChangeSpec) : _root_.Go.OpenSpec := { _root_.Go.OpenSpec.ofChange s with cond := some uptoSmall }

/-- 'leapfroglaw07.LockRuns', WHERE WHAT IT READS IS OF BULK AT MOST 1048576: true; the input reads as it did. -/
def lockRunsUptoRow : OpenClaim := { program := "ytapknlmplhjfeaa", sum := "8e840a12a284edf8f6b35ef650a209f9ab6cc9a426d640b85229178a6bde8594", func := "leapfrog/leapfroglaw07.LockRuns", spec := "lockRuns", plainKeys := false, apart := false, narrowed := true }
def LockRunsUptoSaid : Prop := lockRunsUptoRow.holds Try.pinned (OpenSpec.upto lockRunsSpec)

/-- 'leapfroglaw07.LockFull', WHERE WHAT IT READS IS OF BULK AT MOST 1048576: true; the input reads as it did. -/
def lockFullUptoRow : OpenClaim := { program := "ytapknlmplhjfeaa", sum := "8e840a12a284edf8f6b35ef650a209f9ab6cc9a426d640b85229178a6bde8594", func := "leapfrog/leapfroglaw07.LockFull", spec := "lockFull", plainKeys := false, apart := false, narrowed := true }
def LockFullUptoSaid : Prop := lockFullUptoRow.holds Try.pinned (OpenSpec.upto lockFullSpec)

/-- 'leapfroglaw07.LockStuck', WHERE WHAT IT READS IS OF BULK AT MOST 1048576: true; the input reads as it did. -/
def lockStuckUptoRow : OpenClaim := { program := "ytapknlmplhjfeaa", sum := "8e840a12a284edf8f6b35ef650a209f9ab6cc9a426d640b85229178a6bde8594", func := "leapfrog/leapfroglaw07.LockStuck", spec := "lockStuck", unfollowed := true, recurses := true, plainKeys := false, apart := false, narrowed := true }
def LockStuckUptoSaid : Prop := lockStuckUptoRow.holds Try.pinned (OpenSpec.upto lockStuckSpec)

/-- 'leapfroglaw07.LockTurns', WHERE WHAT IT READS IS OF BULK AT MOST 1048576: true; the input reads as it did. -/
def lockTurnsUptoRow : OpenClaim := { program := "ytapknlmplhjfeaa", sum := "8e840a12a284edf8f6b35ef650a209f9ab6cc9a426d640b85229178a6bde8594", func := "leapfrog/leapfroglaw07.LockTurns", spec := "lockTurns", plainKeys := false, apart := false, narrowed := true }
def LockTurnsUptoSaid : Prop := lockTurnsUptoRow.holds Try.pinned (OpenSpec.upto lockTurnsSpec)

/-- 'leapfroglaw07.LockRising', WHERE WHAT IT READS IS OF BULK AT MOST 1048576: true; the input reads as it did. -/
def lockRisingUptoRow : OpenClaim := { program := "ytapknlmplhjfeaa", sum := "8e840a12a284edf8f6b35ef650a209f9ab6cc9a426d640b85229178a6bde8594", func := "leapfrog/leapfroglaw07.LockRising", spec := "lockRising", unfollowed := true, recurses := true, plainKeys := false, apart := false, narrowed := true }
def LockRisingUptoSaid : Prop := lockRisingUptoRow.holds Try.pinned (OpenSpec.upto lockRisingSpec)

/-- 'leapfroglaw07.LockNobody', WHERE WHAT IT READS IS OF BULK AT MOST 1048576: true; the input reads as it did. -/
def lockNobodyUptoRow : OpenClaim := { program := "ytapknlmplhjfeaa", sum := "8e840a12a284edf8f6b35ef650a209f9ab6cc9a426d640b85229178a6bde8594", func := "leapfrog/leapfroglaw07.LockNobody", spec := "lockNobody", plainKeys := false, apart := false, narrowed := true }
def LockNobodyUptoSaid : Prop := lockNobodyUptoRow.holds Try.pinned (OpenSpec.upto lockNobodySpec)

end Rows
end Go.Proofs.Ytapknlmplhjfeaa
