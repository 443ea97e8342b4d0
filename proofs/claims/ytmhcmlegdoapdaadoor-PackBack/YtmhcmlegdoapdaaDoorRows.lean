/-
  NARROWER THAN 'FOR EVERY INPUT', by the rows' own cells (each row's printed sentence says how): PackWrites: laid · PackLong: laid · PackReads: laid · PackBack: laid · PackOrder: laid · PackOwn: laid.
  DERIVED. THE GIVEN ROWS OF THIS SEAT. 6 by the template 'for every input the law returns true; each argument reads behind the call as it read before'; 0 by the template 'total and deterministic' (their statements: YtmhcmlegdoapdaaDoorTotals.lean).
  GIVEN WITH THE SEED: the statements are not yours to turn. If you find one false, say at which input.
  Laid BY PROGRAM, IN A SANDBOX (cutbox-rows.mjs): the forced cells as the released guide's own fill.sh prints them over the translation 6b9ec2189989e325… (all of the seat's roots in one cut). By AI agents, Wed Nov 11 2026. No macro, syntax, notation, axiom, sorry.
-/
import Derived.Test.YtmhcmlegdoapdaaDoorChecked
import GoSem.Claim
import GoSem.ClaimJoined
import GoSem.ClaimMapViews
import Derived.JoinedTies
import Derived.KernelRfl
namespace Go.Proofs.YtmhcmlegdoapdaaDoor
/- THE CELL 'sum', in the pinned program and in every row, IS THE sha256 OF THE DUMP (.gsa) THAT YtmhcmlegdoapdaaDoorProg.lean LOADS. Nothing in Lean hashes anything: it is a label: what it is worth is what the hold of that sum in a sandbox is worth. -/
noncomputable def Tryd.pinned : Pinned := { name := "ytmhcmlegdoapdaadoor", sum := "6b9ec2189989e325acdd4cab617347dc161d69521ae2067e6ccda52e15d6340c", checked := Tryd.checked }
namespace Rows
def none {H : Type} : Left H := { results := [], args := [] }

/- WHAT THE LISTED PACKAGE-LEVEL VARIABLES READ AS WHEN THE CALL BEGINS. Each datum BY PROGRAM (the guide's laid-datum.mjs) off the statement by which the dump's own 'gosem.cut.vars' lays the variable. In a bare row this is a premise. The card (YtmhcmlegdoapdaaDoorCards.lean) ties it to the program's text. -/
def laid_leapfrog_key_ranks {H : Type} : DataW H := .agg [.agg [.lit (.int .i64 1), .lit (.string [45])], .agg [.lit (.int .i64 2), .lit (.string [])], .agg [.lit (.int .i64 3), .lit (.string [43])]]

/-- 'leapfroglaw03.PackWrites': WHATEVER THE INPUT: true; the input reads as it did. -/
def packWritesSpec : ChangeSpec := { name := "packWrites", fn := fun _ => fun
  | [d1, d2, d3] => { results := [.lit (.bool true)], args := [d1, d2, d3] }
  | _ => none }
def packWritesRow : OpenClaim := { program := "ytmhcmlegdoapdaadoor", sum := "6b9ec2189989e325acdd4cab617347dc161d69521ae2067e6ccda52e15d6340c", func := "leapfrog/leapfroglaw03.PackWrites", spec := "packWrites", unfollowed := true, recurses := true, named := ["leapfrog/key.ranks"], apart := false, laid := [("leapfrog/key.ranks", laid_leapfrog_key_ranks)] }
def PackWritesSaid : Prop := packWritesRow.holds Tryd.pinned (OpenSpec.ofChange packWritesSpec)

/-- ITS FALSE NEIGHBOUR: 'it returns false'. Refute it at one input. -/
def packWritesWrong : ChangeSpec := { name := "packWrites", fn := fun _ => fun
  | [d1, d2, d3] => { results := [.lit (.bool false)], args := [d1, d2, d3] }
  | _ => none }
def PackWritesWrongFalsely : Prop := packWritesRow.holds Tryd.pinned (OpenSpec.ofChange packWritesWrong)

/-- 'leapfroglaw03.PackLong': WHATEVER THE INPUT: true; the input reads as it did. -/
def packLongSpec : ChangeSpec := { name := "packLong", fn := fun _ => fun
  | [d] => { results := [.lit (.bool true)], args := [d] }
  | _ => none }
def packLongRow : OpenClaim := { program := "ytmhcmlegdoapdaadoor", sum := "6b9ec2189989e325acdd4cab617347dc161d69521ae2067e6ccda52e15d6340c", func := "leapfrog/leapfroglaw03.PackLong", spec := "packLong", unfollowed := true, recurses := true, named := ["leapfrog/key.ranks"], apart := false, laid := [("leapfrog/key.ranks", laid_leapfrog_key_ranks)] }
def PackLongSaid : Prop := packLongRow.holds Tryd.pinned (OpenSpec.ofChange packLongSpec)

/-- ITS FALSE NEIGHBOUR: 'it returns false'. Refute it at one input. -/
def packLongWrong : ChangeSpec := { name := "packLong", fn := fun _ => fun
  | [d] => { results := [.lit (.bool false)], args := [d] }
  | _ => none }
def PackLongWrongFalsely : Prop := packLongRow.holds Tryd.pinned (OpenSpec.ofChange packLongWrong)

/-- 'leapfroglaw03.PackReads': WHATEVER THE INPUT: true; the input reads as it did. -/
def packReadsSpec : ChangeSpec := { name := "packReads", fn := fun _ => fun
  | [d1, d2] => { results := [.lit (.bool true)], args := [d1, d2] }
  | _ => none }
def packReadsRow : OpenClaim := { program := "ytmhcmlegdoapdaadoor", sum := "6b9ec2189989e325acdd4cab617347dc161d69521ae2067e6ccda52e15d6340c", func := "leapfrog/leapfroglaw03.PackReads", spec := "packReads", unfollowed := true, recurses := true, named := ["leapfrog/key.ranks"], apart := false, laid := [("leapfrog/key.ranks", laid_leapfrog_key_ranks)] }
def PackReadsSaid : Prop := packReadsRow.holds Tryd.pinned (OpenSpec.ofChange packReadsSpec)

/-- ITS FALSE NEIGHBOUR: 'it returns false'. Refute it at one input. -/
def packReadsWrong : ChangeSpec := { name := "packReads", fn := fun _ => fun
  | [d1, d2] => { results := [.lit (.bool false)], args := [d1, d2] }
  | _ => none }
def PackReadsWrongFalsely : Prop := packReadsRow.holds Tryd.pinned (OpenSpec.ofChange packReadsWrong)

/-- 'leapfroglaw03.PackBack': WHATEVER THE INPUT: true; the input reads as it did. -/
def packBackSpec : ChangeSpec := { name := "packBack", fn := fun _ => fun
  | [d1, d2, d3] => { results := [.lit (.bool true)], args := [d1, d2, d3] }
  | _ => none }
def packBackRow : OpenClaim := { program := "ytmhcmlegdoapdaadoor", sum := "6b9ec2189989e325acdd4cab617347dc161d69521ae2067e6ccda52e15d6340c", func := "leapfrog/leapfroglaw03.PackBack", spec := "packBack", unfollowed := true, recurses := true, named := ["leapfrog/key.ranks"], apart := false, laid := [("leapfrog/key.ranks", laid_leapfrog_key_ranks)] }
def PackBackSaid : Prop := packBackRow.holds Tryd.pinned (OpenSpec.ofChange packBackSpec)

/-- ITS FALSE NEIGHBOUR: 'it returns false'. Refute it at one input. -/
def packBackWrong : ChangeSpec := { name := "packBack", fn := fun _ => fun
  | [d1, d2, d3] => { results := [.lit (.bool false)], args := [d1, d2, d3] }
  | _ => none }
def PackBackWrongFalsely : Prop := packBackRow.holds Tryd.pinned (OpenSpec.ofChange packBackWrong)

/-- 'leapfroglaw03.PackOrder': WHATEVER THE INPUT: true; the input reads as it did. -/
def packOrderSpec : ChangeSpec := { name := "packOrder", fn := fun _ => fun
  | [d1, d2] => { results := [.lit (.bool true)], args := [d1, d2] }
  | _ => none }
def packOrderRow : OpenClaim := { program := "ytmhcmlegdoapdaadoor", sum := "6b9ec2189989e325acdd4cab617347dc161d69521ae2067e6ccda52e15d6340c", func := "leapfrog/leapfroglaw03.PackOrder", spec := "packOrder", unfollowed := true, recurses := true, named := ["leapfrog/key.ranks"], apart := false, laid := [("leapfrog/key.ranks", laid_leapfrog_key_ranks)] }
def PackOrderSaid : Prop := packOrderRow.holds Tryd.pinned (OpenSpec.ofChange packOrderSpec)

/-- ITS FALSE NEIGHBOUR: 'it returns false'. Refute it at one input. -/
def packOrderWrong : ChangeSpec := { name := "packOrder", fn := fun _ => fun
  | [d1, d2] => { results := [.lit (.bool false)], args := [d1, d2] }
  | _ => none }
def PackOrderWrongFalsely : Prop := packOrderRow.holds Tryd.pinned (OpenSpec.ofChange packOrderWrong)

/-- 'leapfroglaw03.PackOwn': WHATEVER THE INPUT: true; the input reads as it did. -/
def packOwnSpec : ChangeSpec := { name := "packOwn", fn := fun _ => fun
  | [d] => { results := [.lit (.bool true)], args := [d] }
  | _ => none }
def packOwnRow : OpenClaim := { program := "ytmhcmlegdoapdaadoor", sum := "6b9ec2189989e325acdd4cab617347dc161d69521ae2067e6ccda52e15d6340c", func := "leapfrog/leapfroglaw03.PackOwn", spec := "packOwn", unfollowed := true, recurses := true, named := ["leapfrog/key.ranks"], apart := false, laid := [("leapfrog/key.ranks", laid_leapfrog_key_ranks)] }
def PackOwnSaid : Prop := packOwnRow.holds Tryd.pinned (OpenSpec.ofChange packOwnSpec)

/-- ITS FALSE NEIGHBOUR: 'it returns false'. Refute it at one input. -/
def packOwnWrong : ChangeSpec := { name := "packOwn", fn := fun _ => fun
  | [d] => { results := [.lit (.bool false)], args := [d] }
  | _ => none }
def PackOwnWrongFalsely : Prop := packOwnRow.holds Tryd.pinned (OpenSpec.ofChange packOwnWrong)

/- THE SECOND FORM. 'bulk': how many values and letters a reading holds, each counted each time it is reached (what is shared counts as often as it is met; a slice's spare places count too). A statement '..UptoSaid' is the law's where the arguments, and the package variables that the reading takes, are together of bulk at most 1048576: NARROWER than '..Said'. Prove '..Said' where nothing that the law and all that it calls make is longer than what came in: it says more and counts as full. Else prove '..UptoSaid'. A law counts once. -/
mutual
def uptoBulk {H : Type} : DataW H → Nat
  | .lit (.string bytes) => bytes.length + 1
  | .lit _ => 1
  | .nil => 1
  | .ptr d => uptoBulk d + 1
  | .slice elems spare => uptoBulkAll elems + uptoBulkAll spare + 1
  | .agg parts => uptoBulkAll parts + 1
  | .iface _ d => uptoBulk d + 1
  | .map entries => uptoBulkEntries entries + 1
  | .held _ => 1
def uptoBulkAll {H : Type} : List (DataW H) → Nat
  | [] => 0
  | d :: r => uptoBulk d + uptoBulkAll r
def uptoBulkEntries {H : Type} : List (Lit × DataW H) → Nat
  | [] => 0
  | x :: r => uptoBulkEntry x + uptoBulkEntries r
def uptoBulkEntry {H : Type} : Lit × DataW H → Nat
  | (.string bytes, d) => bytes.length + uptoBulk d + 1
  | (_, d) => uptoBulk d + 1
 end
def uptoSmall : (H : Type) → List (DataW H) → Bool := fun _ ds => decide (uptoBulkAll ds ≤ 1048576)
def OpenSpec.upto (s : _root_.Go.ChangeSpec) : _root_.Go.OpenSpec := { _root_.Go.OpenSpec.ofChange s with cond := some uptoSmall }

/-- 'leapfroglaw03.PackWrites', WHERE WHAT IT READS IS OF BULK AT MOST 1048576: true; the input reads as it did. -/
def packWritesUptoRow : OpenClaim := { program := "ytmhcmlegdoapdaadoor", sum := "6b9ec2189989e325acdd4cab617347dc161d69521ae2067e6ccda52e15d6340c", func := "leapfrog/leapfroglaw03.PackWrites", spec := "packWrites", unfollowed := true, recurses := true, named := ["leapfrog/key.ranks"], apart := false, laid := [("leapfrog/key.ranks", laid_leapfrog_key_ranks)], narrowed := true }
def PackWritesUptoSaid : Prop := packWritesUptoRow.holds Tryd.pinned (OpenSpec.upto packWritesSpec)

/-- 'leapfroglaw03.PackLong', WHERE WHAT IT READS IS OF BULK AT MOST 1048576: true; the input reads as it did. -/
def packLongUptoRow : OpenClaim := { program := "ytmhcmlegdoapdaadoor", sum := "6b9ec2189989e325acdd4cab617347dc161d69521ae2067e6ccda52e15d6340c", func := "leapfrog/leapfroglaw03.PackLong", spec := "packLong", unfollowed := true, recurses := true, named := ["leapfrog/key.ranks"], apart := false, laid := [("leapfrog/key.ranks", laid_leapfrog_key_ranks)], narrowed := true }
def PackLongUptoSaid : Prop := packLongUptoRow.holds Tryd.pinned (OpenSpec.upto packLongSpec)

/-- 'leapfroglaw03.PackReads', WHERE WHAT IT READS IS OF BULK AT MOST 1048576: true; the input reads as it did. -/
def packReadsUptoRow : OpenClaim := { program := "ytmhcmlegdoapdaadoor", sum := "6b9ec2189989e325acdd4cab617347dc161d69521ae2067e6ccda52e15d6340c", func := "leapfrog/leapfroglaw03.PackReads", spec := "packReads", unfollowed := true, recurses := true, named := ["leapfrog/key.ranks"], apart := false, laid := [("leapfrog/key.ranks", laid_leapfrog_key_ranks)], narrowed := true }
def PackReadsUptoSaid : Prop := packReadsUptoRow.holds Tryd.pinned (OpenSpec.upto packReadsSpec)

/-- 'leapfroglaw03.PackBack', WHERE WHAT IT READS IS OF BULK AT MOST 1048576: true; the input reads as it did. -/
def packBackUptoRow : OpenClaim := { program := "ytmhcmlegdoapdaadoor", sum := "6b9ec2189989e325acdd4cab617347dc161d69521ae2067e6ccda52e15d6340c", func := "leapfrog/leapfroglaw03.PackBack", spec := "packBack", unfollowed := true, recurses := true, named := ["leapfrog/key.ranks"], apart := false, laid := [("leapfrog/key.ranks", laid_leapfrog_key_ranks)], narrowed := true }
def PackBackUptoSaid : Prop := packBackUptoRow.holds Tryd.pinned (OpenSpec.upto packBackSpec)

/-- 'leapfroglaw03.PackOrder', WHERE WHAT IT READS IS OF BULK AT MOST 1048576: true; the input reads as it did. -/
def packOrderUptoRow : OpenClaim := { program := "ytmhcmlegdoapdaadoor", sum := "6b9ec2189989e325acdd4cab617347dc161d69521ae2067e6ccda52e15d6340c", func := "leapfrog/leapfroglaw03.PackOrder", spec := "packOrder", unfollowed := true, recurses := true, named := ["leapfrog/key.ranks"], apart := false, laid := [("leapfrog/key.ranks", laid_leapfrog_key_ranks)], narrowed := true }
def PackOrderUptoSaid : Prop := packOrderUptoRow.holds Tryd.pinned (OpenSpec.upto packOrderSpec)

/-- 'leapfroglaw03.PackOwn', WHERE WHAT IT READS IS OF BULK AT MOST 1048576: true; the input reads as it did. -/
def packOwnUptoRow : OpenClaim := { program := "ytmhcmlegdoapdaadoor", sum := "6b9ec2189989e325acdd4cab617347dc161d69521ae2067e6ccda52e15d6340c", func := "leapfrog/leapfroglaw03.PackOwn", spec := "packOwn", unfollowed := true, recurses := true, named := ["leapfrog/key.ranks"], apart := false, laid := [("leapfrog/key.ranks", laid_leapfrog_key_ranks)], narrowed := true }
def PackOwnUptoSaid : Prop := packOwnUptoRow.holds Tryd.pinned (OpenSpec.upto packOwnSpec)

end Rows
end Go.Proofs.YtmhcmlegdoapdaaDoor
