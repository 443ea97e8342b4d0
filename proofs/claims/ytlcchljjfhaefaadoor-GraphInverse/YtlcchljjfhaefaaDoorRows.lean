/-
  NARROWER THAN 'FOR EVERY INPUT', by the rows' own cells (each row's printed sentence says how): GraphBeside: laid · GraphWays: laid · GraphParted: laid · GraphInverse: laid.
  DERIVED. THE GIVEN ROWS OF THIS SEAT. 4 by the template 'for every input the law returns true; each argument reads behind the call as it read before'; 0 by the template 'total and deterministic' (their statements: YtlcchljjfhaefaaDoorTotals.lean).
  GIVEN WITH THE SEED: the statements are not yours to turn. If you find one false, say at which input.
  Laid BY PROGRAM, IN A SANDBOX (cutbox-rows.mjs): the forced cells as the released guide's own fill.sh prints them over the translation 45a0fe51ab02013e… (all of the seat's roots in one cut). By AI agents, Wed Nov 11 2026. No macro, syntax, notation, axiom, sorry.
-/
import Derived.Test.YtlcchljjfhaefaaDoorChecked
import GoSem.Claim
import GoSem.ClaimJoined
import GoSem.ClaimMapViews
import Derived.JoinedTies
import Derived.KernelRfl
namespace Go.Proofs.YtlcchljjfhaefaaDoor
/- THE CELL 'sum', in the pinned program and in every row, IS THE sha256 OF THE DUMP (.gsa) THAT YtlcchljjfhaefaaDoorProg.lean LOADS. Nothing in Lean hashes anything: it is a label: what it is worth is what the hold of that sum in a sandbox is worth. -/
noncomputable def Tryd.pinned : Pinned := { name := "ytlcchljjfhaefaadoor", sum := "45a0fe51ab02013e531f8fdb95c4d590c10736874fef2b9d69b32282b1c441e3", checked := Tryd.checked }
namespace Rows
def none {H : Type} : Left H := { results := [], args := [] }

/- WHAT THE LISTED PACKAGE-LEVEL VARIABLES READ AS WHEN THE CALL BEGINS. Each datum BY PROGRAM (the guide's laid-datum.mjs) off the statement by which the dump's own 'gosem.cut.vars' lays the variable. In a bare row this is a premise. The card (YtlcchljjfhaefaaDoorCards.lean) ties it to the program's text. -/
def laid_leapfrog_key_ranks {H : Type} : DataW H := .agg [.agg [.lit (.int .i64 1), .lit (.string [45])], .agg [.lit (.int .i64 2), .lit (.string [])], .agg [.lit (.int .i64 3), .lit (.string [43])]]

/-- 'leapfroglaw11.GraphBeside': WHATEVER THE INPUT: true; the input reads as it did. -/
def graphBesideSpec : ChangeSpec := { name := "graphBeside", fn := fun _ => fun
  | [d1, d2, d3, d4] => { results := [.lit (.bool true)], args := [d1, d2, d3, d4] }
  | _ => none }
def graphBesideRow : OpenClaim := { program := "ytlcchljjfhaefaadoor", sum := "45a0fe51ab02013e531f8fdb95c4d590c10736874fef2b9d69b32282b1c441e3", func := "leapfrog/leapfroglaw11.GraphBeside", spec := "graphBeside", unfollowed := true, recurses := true, named := ["leapfrog/key.ranks"], plainKeys := false, apart := false, laid := [("leapfrog/key.ranks", laid_leapfrog_key_ranks)] }
def GraphBesideSaid : Prop := graphBesideRow.holds Tryd.pinned (OpenSpec.ofChange graphBesideSpec)

/-- ITS FALSE NEIGHBOUR: 'it returns false'. Refute it at one input. -/
def graphBesideWrong : ChangeSpec := { name := "graphBeside", fn := fun _ => fun
  | [d1, d2, d3, d4] => { results := [.lit (.bool false)], args := [d1, d2, d3, d4] }
  | _ => none }
def GraphBesideWrongFalsely : Prop := graphBesideRow.holds Tryd.pinned (OpenSpec.ofChange graphBesideWrong)

/-- 'leapfroglaw11.GraphWays': WHATEVER THE INPUT: true; the input reads as it did. -/
def graphWaysSpec : ChangeSpec := { name := "graphWays", fn := fun _ => fun
  | [d1, d2, d3, d4] => { results := [.lit (.bool true)], args := [d1, d2, d3, d4] }
  | _ => none }
def graphWaysRow : OpenClaim := { program := "ytlcchljjfhaefaadoor", sum := "45a0fe51ab02013e531f8fdb95c4d590c10736874fef2b9d69b32282b1c441e3", func := "leapfrog/leapfroglaw11.GraphWays", spec := "graphWays", unfollowed := true, recurses := true, named := ["leapfrog/key.ranks"], plainKeys := false, apart := false, laid := [("leapfrog/key.ranks", laid_leapfrog_key_ranks)] }
def GraphWaysSaid : Prop := graphWaysRow.holds Tryd.pinned (OpenSpec.ofChange graphWaysSpec)

/-- ITS FALSE NEIGHBOUR: 'it returns false'. Refute it at one input. -/
def graphWaysWrong : ChangeSpec := { name := "graphWays", fn := fun _ => fun
  | [d1, d2, d3, d4] => { results := [.lit (.bool false)], args := [d1, d2, d3, d4] }
  | _ => none }
def GraphWaysWrongFalsely : Prop := graphWaysRow.holds Tryd.pinned (OpenSpec.ofChange graphWaysWrong)

/-- 'leapfroglaw11.GraphParted': WHATEVER THE INPUT: true; the input reads as it did. -/
def graphPartedSpec : ChangeSpec := { name := "graphParted", fn := fun _ => fun
  | [d1, d2, d3] => { results := [.lit (.bool true)], args := [d1, d2, d3] }
  | _ => none }
def graphPartedRow : OpenClaim := { program := "ytlcchljjfhaefaadoor", sum := "45a0fe51ab02013e531f8fdb95c4d590c10736874fef2b9d69b32282b1c441e3", func := "leapfrog/leapfroglaw11.GraphParted", spec := "graphParted", unfollowed := true, recurses := true, named := ["leapfrog/key.ranks"], plainKeys := false, apart := false, laid := [("leapfrog/key.ranks", laid_leapfrog_key_ranks)] }
def GraphPartedSaid : Prop := graphPartedRow.holds Tryd.pinned (OpenSpec.ofChange graphPartedSpec)

/-- ITS FALSE NEIGHBOUR: 'it returns false'. Refute it at one input. -/
def graphPartedWrong : ChangeSpec := { name := "graphParted", fn := fun _ => fun
  | [d1, d2, d3] => { results := [.lit (.bool false)], args := [d1, d2, d3] }
  | _ => none }
def GraphPartedWrongFalsely : Prop := graphPartedRow.holds Tryd.pinned (OpenSpec.ofChange graphPartedWrong)

/-- 'leapfroglaw11.GraphInverse': WHATEVER THE INPUT: true; the input reads as it did. -/
def graphInverseSpec : ChangeSpec := { name := "graphInverse", fn := fun _ => fun
  | [d1, d2, d3, d4] => { results := [.lit (.bool true)], args := [d1, d2, d3, d4] }
  | _ => none }
def graphInverseRow : OpenClaim := { program := "ytlcchljjfhaefaadoor", sum := "45a0fe51ab02013e531f8fdb95c4d590c10736874fef2b9d69b32282b1c441e3", func := "leapfrog/leapfroglaw11.GraphInverse", spec := "graphInverse", unfollowed := true, recurses := true, named := ["leapfrog/key.ranks"], plainKeys := false, apart := false, laid := [("leapfrog/key.ranks", laid_leapfrog_key_ranks)] }
def GraphInverseSaid : Prop := graphInverseRow.holds Tryd.pinned (OpenSpec.ofChange graphInverseSpec)

/-- ITS FALSE NEIGHBOUR: 'it returns false'. Refute it at one input. -/
def graphInverseWrong : ChangeSpec := { name := "graphInverse", fn := fun _ => fun
  | [d1, d2, d3, d4] => { results := [.lit (.bool false)], args := [d1, d2, d3, d4] }
  | _ => none }
def GraphInverseWrongFalsely : Prop := graphInverseRow.holds Tryd.pinned (OpenSpec.ofChange graphInverseWrong)

/- THE SECOND FORM. 'bulk': how many values and letters a reading holds, each counted each time it is reached (what is shared counts as often as it is met; a slice's spare places count too). A statement '..UptoSaid' is the law's where the arguments, and the package variables that the reading takes, are together of bulk at most 1048576: NARROWER than '..Said'. Prove '..Said' where nothing that the law and all that it calls make is longer than what came in: it says more and counts as full. Else prove '..UptoSaid'. A law counts once. -/
mutual
def uptoBulk {H : Type} : DataW H → Nat
  | .lit (.string bytes) => bytes.length + 1
  | .lit _ => 1
  | .nil => 1
  | .ptr d => uptoBulk d + 1
  | .slice elems spare => uptoBulkAll elems + uptoBulkAll spare + 1
  | .agg parts => uptoBulkAll parts + 1
  | .iface _ d => uptoBulk d + 1
  | .map entries => uptoBulkEntries entries + 1
  | .held _ => 1
def uptoBulkAll {H : Type} : List (DataW H) → Nat
  | [] => 0
  | d :: r => uptoBulk d + uptoBulkAll r
def uptoBulkEntries {H : Type} : List (Lit × DataW H) → Nat
  | [] => 0
  | x :: r => uptoBulkEntry x + uptoBulkEntries r
def uptoBulkEntry {H : Type} : Lit × DataW H → Nat
  | (.string bytes, d) => bytes.length + uptoBulk d + 1
  | (_, d) => uptoBulk d + 1
 end
def uptoSmall : (H : Type) → List (DataW H) → Bool := fun _ ds => decide (uptoBulkAll ds ≤ 1048576)
def OpenSpec.upto (s : _root_.Go.ChangeSpec) : _root_.Go.OpenSpec := { _root_.Go.OpenSpec.ofChange s with cond := some uptoSmall }

/-- 'leapfroglaw11.GraphBeside', WHERE WHAT IT READS IS OF BULK AT MOST 1048576: true; the input reads as it did. -/
def graphBesideUptoRow : OpenClaim := { program := "ytlcchljjfhaefaadoor", sum := "45a0fe51ab02013e531f8fdb95c4d590c10736874fef2b9d69b32282b1c441e3", func := "leapfrog/leapfroglaw11.GraphBeside", spec := "graphBeside", unfollowed := true, recurses := true, named := ["leapfrog/key.ranks"], plainKeys := false, apart := false, laid := [("leapfrog/key.ranks", laid_leapfrog_key_ranks)], narrowed := true }
def GraphBesideUptoSaid : Prop := graphBesideUptoRow.holds Tryd.pinned (OpenSpec.upto graphBesideSpec)

/-- 'leapfroglaw11.GraphWays', WHERE WHAT IT READS IS OF BULK AT MOST 1048576: true; the input reads as it did. -/
def graphWaysUptoRow : OpenClaim := { program := "ytlcchljjfhaefaadoor", sum := "45a0fe51ab02013e531f8fdb95c4d590c10736874fef2b9d69b32282b1c441e3", func := "leapfrog/leapfroglaw11.GraphWays", spec := "graphWays", unfollowed := true, recurses := true, named := ["leapfrog/key.ranks"], plainKeys := false, apart := false, laid := [("leapfrog/key.ranks", laid_leapfrog_key_ranks)], narrowed := true }
def GraphWaysUptoSaid : Prop := graphWaysUptoRow.holds Tryd.pinned (OpenSpec.upto graphWaysSpec)

/-- 'leapfroglaw11.GraphParted', WHERE WHAT IT READS IS OF BULK AT MOST 1048576: true; the input reads as it did. -/
def graphPartedUptoRow : OpenClaim := { program := "ytlcchljjfhaefaadoor", sum := "45a0fe51ab02013e531f8fdb95c4d590c10736874fef2b9d69b32282b1c441e3", func := "leapfrog/leapfroglaw11.GraphParted", spec := "graphParted", unfollowed := true, recurses := true, named := ["leapfrog/key.ranks"], plainKeys := false, apart := false, laid := [("leapfrog/key.ranks", laid_leapfrog_key_ranks)], narrowed := true }
def GraphPartedUptoSaid : Prop := graphPartedUptoRow.holds Tryd.pinned (OpenSpec.upto graphPartedSpec)

/-- 'leapfroglaw11.GraphInverse', WHERE WHAT IT READS IS OF BULK AT MOST 1048576: true; the input reads as it did. -/
def graphInverseUptoRow : OpenClaim := { program := "ytlcchljjfhaefaadoor", sum := "45a0fe51ab02013e531f8fdb95c4d590c10736874fef2b9d69b32282b1c441e3", func := "leapfrog/leapfroglaw11.GraphInverse", spec := "graphInverse", unfollowed := true, recurses := true, named := ["leapfrog/key.ranks"], plainKeys := false, apart := false, laid := [("leapfrog/key.ranks", laid_leapfrog_key_ranks)], narrowed := true }
def GraphInverseUptoSaid : Prop := graphInverseUptoRow.holds Tryd.pinned (OpenSpec.upto graphInverseSpec)

end Rows
end Go.Proofs.YtlcchljjfhaefaaDoor
