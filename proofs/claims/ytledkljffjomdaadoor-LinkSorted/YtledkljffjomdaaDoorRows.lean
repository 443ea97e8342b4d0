/-
  NARROWER THAN 'FOR EVERY INPUT', by the rows' own cells (each row's printed sentence says how): LinkSame: laid · LinkSorted: laid · LinkApart: laid · LinkAgain: laid · LinkNobody: laid.
  DERIVED. THE GIVEN ROWS OF THIS SEAT. 5 by the template 'for every input the law returns true; each argument reads behind the call as it read before'; 0 by the template 'total and deterministic' (their statements: YtledkljffjomdaaDoorTotals.lean).
  GIVEN WITH THE SEED: the statements are not yours to turn. If you find one false, say at which input.
  Laid BY PROGRAM, IN A SANDBOX (cutbox-rows.mjs): the forced cells as the released guide's own fill.sh prints them over the translation 49176c3836d6ef95… (all of the seat's roots in one cut). By AI agents, Wed Nov 11 2026. No macro, syntax, notation, axiom, sorry.
-/
import Derived.Test.YtledkljffjomdaaDoorChecked
import GoSem.Claim
import GoSem.ClaimJoined
import GoSem.ClaimMapViews
import Derived.JoinedTies
import Derived.KernelRfl
namespace Go.Proofs.YtledkljffjomdaaDoor
/- THE CELL 'sum', in the pinned program and in every row, IS THE sha256 OF THE DUMP (.gsa) THAT YtledkljffjomdaaDoorProg.lean LOADS. Nothing in Lean hashes anything: it is a label: what it is worth is what the hold of that sum in a sandbox is worth. -/
noncomputable def Tryd.pinned : Pinned := { name := "ytledkljffjomdaadoor", sum := "49176c3836d6ef95a5c347c91d9ec03843d53b7e29dce0ff5798b292066ed271", checked := Tryd.checked }
namespace Rows
def none {H : Type} : Left H := { results := [], args := [] }

/- WHAT THE LISTED PACKAGE-LEVEL VARIABLES READ AS WHEN THE CALL BEGINS. Each datum BY PROGRAM (the guide's laid-datum.mjs) off the statement by which the dump's own 'gosem.cut.vars' lays the variable. In a bare row this is a premise. The card (YtledkljffjomdaaDoorCards.lean) ties it to the program's text. -/
def laid_leapfrog_key_ranks {H : Type} : DataW H := .agg [.agg [.lit (.int .i64 1), .lit (.string [45])], .agg [.lit (.int .i64 2), .lit (.string [])], .agg [.lit (.int .i64 3), .lit (.string [43])]]

/-- 'leapfroglaw08.LinkSame': WHATEVER THE INPUT: true; the input reads as it did. -/
def linkSameSpec : ChangeSpec := { name := "linkSame", fn := fun _ => fun
  | [d1, d2] => { results := [.lit (.bool true)], args := [d1, d2] }
  | _ => none }
def linkSameRow : OpenClaim := { program := "ytledkljffjomdaadoor", sum := "49176c3836d6ef95a5c347c91d9ec03843d53b7e29dce0ff5798b292066ed271", func := "leapfrog/leapfroglaw08.LinkSame", spec := "linkSame", named := ["leapfrog/key.ranks"], plainKeys := false, apart := false, laid := [("leapfrog/key.ranks", laid_leapfrog_key_ranks)] }
def LinkSameSaid : Prop := linkSameRow.holds Tryd.pinned (OpenSpec.ofChange linkSameSpec)

/-- ITS FALSE NEIGHBOUR: 'it returns false'. Refute it at one input. -/
def linkSameWrong : ChangeSpec := { name := "linkSame", fn := fun _ => fun
  | [d1, d2] => { results := [.lit (.bool false)], args := [d1, d2] }
  | _ => none }
def LinkSameWrongFalsely : Prop := linkSameRow.holds Tryd.pinned (OpenSpec.ofChange linkSameWrong)

/-- 'leapfroglaw08.LinkSorted': WHATEVER THE INPUT: true; the input reads as it did. -/
def linkSortedSpec : ChangeSpec := { name := "linkSorted", fn := fun _ => fun
  | [d1, d2] => { results := [.lit (.bool true)], args := [d1, d2] }
  | _ => none }
def linkSortedRow : OpenClaim := { program := "ytledkljffjomdaadoor", sum := "49176c3836d6ef95a5c347c91d9ec03843d53b7e29dce0ff5798b292066ed271", func := "leapfrog/leapfroglaw08.LinkSorted", spec := "linkSorted", unfollowed := true, recurses := true, named := ["leapfrog/key.ranks"], plainKeys := false, apart := false, laid := [("leapfrog/key.ranks", laid_leapfrog_key_ranks)] }
def LinkSortedSaid : Prop := linkSortedRow.holds Tryd.pinned (OpenSpec.ofChange linkSortedSpec)

/-- ITS FALSE NEIGHBOUR: 'it returns false'. Refute it at one input. -/
def linkSortedWrong : ChangeSpec := { name := "linkSorted", fn := fun _ => fun
  | [d1, d2] => { results := [.lit (.bool false)], args := [d1, d2] }
  | _ => none }
def LinkSortedWrongFalsely : Prop := linkSortedRow.holds Tryd.pinned (OpenSpec.ofChange linkSortedWrong)

/-- 'leapfroglaw08.LinkApart': WHATEVER THE INPUT: true; the input reads as it did. -/
def linkApartSpec : ChangeSpec := { name := "linkApart", fn := fun _ => fun
  | [d1, d2, d3, d4] => { results := [.lit (.bool true)], args := [d1, d2, d3, d4] }
  | _ => none }
def linkApartRow : OpenClaim := { program := "ytledkljffjomdaadoor", sum := "49176c3836d6ef95a5c347c91d9ec03843d53b7e29dce0ff5798b292066ed271", func := "leapfrog/leapfroglaw08.LinkApart", spec := "linkApart", named := ["leapfrog/key.ranks"], plainKeys := false, apart := false, laid := [("leapfrog/key.ranks", laid_leapfrog_key_ranks)] }
def LinkApartSaid : Prop := linkApartRow.holds Tryd.pinned (OpenSpec.ofChange linkApartSpec)

/-- ITS FALSE NEIGHBOUR: 'it returns false'. Refute it at one input. -/
def linkApartWrong : ChangeSpec := { name := "linkApart", fn := fun _ => fun
  | [d1, d2, d3, d4] => { results := [.lit (.bool false)], args := [d1, d2, d3, d4] }
  | _ => none }
def LinkApartWrongFalsely : Prop := linkApartRow.holds Tryd.pinned (OpenSpec.ofChange linkApartWrong)

/-- 'leapfroglaw08.LinkAgain': WHATEVER THE INPUT: true; the input reads as it did. -/
def linkAgainSpec : ChangeSpec := { name := "linkAgain", fn := fun _ => fun
  | [d1, d2, d3, d4, d5, d6] => { results := [.lit (.bool true)], args := [d1, d2, d3, d4, d5, d6] }
  | _ => none }
def linkAgainRow : OpenClaim := { program := "ytledkljffjomdaadoor", sum := "49176c3836d6ef95a5c347c91d9ec03843d53b7e29dce0ff5798b292066ed271", func := "leapfrog/leapfroglaw08.LinkAgain", spec := "linkAgain", named := ["leapfrog/key.ranks"], plainKeys := false, apart := false, laid := [("leapfrog/key.ranks", laid_leapfrog_key_ranks)] }
def LinkAgainSaid : Prop := linkAgainRow.holds Tryd.pinned (OpenSpec.ofChange linkAgainSpec)

/-- ITS FALSE NEIGHBOUR: 'it returns false'. Refute it at one input. -/
def linkAgainWrong : ChangeSpec := { name := "linkAgain", fn := fun _ => fun
  | [d1, d2, d3, d4, d5, d6] => { results := [.lit (.bool false)], args := [d1, d2, d3, d4, d5, d6] }
  | _ => none }
def LinkAgainWrongFalsely : Prop := linkAgainRow.holds Tryd.pinned (OpenSpec.ofChange linkAgainWrong)

/-- 'leapfroglaw08.LinkNobody': WHATEVER THE INPUT: true; the input reads as it did. -/
def linkNobodySpec : ChangeSpec := { name := "linkNobody", fn := fun _ => fun
  | [d] => { results := [.lit (.bool true)], args := [d] }
  | _ => none }
def linkNobodyRow : OpenClaim := { program := "ytledkljffjomdaadoor", sum := "49176c3836d6ef95a5c347c91d9ec03843d53b7e29dce0ff5798b292066ed271", func := "leapfrog/leapfroglaw08.LinkNobody", spec := "linkNobody", unfollowed := true, recurses := true, named := ["leapfrog/key.ranks"], plainKeys := false, apart := false, laid := [("leapfrog/key.ranks", laid_leapfrog_key_ranks)] }
def LinkNobodySaid : Prop := linkNobodyRow.holds Tryd.pinned (OpenSpec.ofChange linkNobodySpec)

/-- ITS FALSE NEIGHBOUR: 'it returns false'. Refute it at one input. -/
def linkNobodyWrong : ChangeSpec := { name := "linkNobody", fn := fun _ => fun
  | [d] => { results := [.lit (.bool false)], args := [d] }
  | _ => none }
def LinkNobodyWrongFalsely : Prop := linkNobodyRow.holds Tryd.pinned (OpenSpec.ofChange linkNobodyWrong)

/- THE SECOND FORM. 'bulk': how many values and letters a reading holds, each counted each time it is reached (what is shared counts as often as it is met; a slice's spare places count too). A statement '..UptoSaid' is the law's where the arguments, and the package variables that the reading takes, are together of bulk at most 1048576: NARROWER than '..Said'. Prove '..Said' where nothing that the law and all that it calls make is longer than what came in: it says more and counts as full. Else prove '..UptoSaid'. A law counts once. -/
mutual
def uptoBulk {H : Type} : DataW H → Nat
  | .lit (.string bytes) => bytes.length + 1
  | .lit _ => 1
  | .nil => 1
  | .ptr d => uptoBulk d + 1
  | .slice elems spare => uptoBulkAll elems + uptoBulkAll spare + 1
  | .agg parts => uptoBulkAll parts + 1
  | .iface _ d => uptoBulk d + 1
  | .map entries => uptoBulkEntries entries + 1
  | .held _ => 1
def uptoBulkAll {H : Type} : List (DataW H) → Nat
  | [] => 0
  | d :: r => uptoBulk d + uptoBulkAll r
def uptoBulkEntries {H : Type} : List (Lit × DataW H) → Nat
  | [] => 0
  | x :: r => uptoBulkEntry x + uptoBulkEntries r
def uptoBulkEntry {H : Type} : Lit × DataW H → Nat
  | (.string bytes, d) => bytes.length + uptoBulk d + 1
  | (_, d) => uptoBulk d + 1
 end
def uptoSmall : (H : Type) → List (DataW H) → Bool := fun _ ds => decide (uptoBulkAll ds ≤ 1048576)
def OpenSpec.upto (s : _root_.Go.ChangeSpec) : _root_.Go.OpenSpec := { _root_.Go.OpenSpec.ofChange s with cond := some uptoSmall }

/-- 'leapfroglaw08.LinkSame', WHERE WHAT IT READS IS OF BULK AT MOST 1048576: true; the input reads as it did. -/
def linkSameUptoRow : OpenClaim := { program := "ytledkljffjomdaadoor", sum := "49176c3836d6ef95a5c347c91d9ec03843d53b7e29dce0ff5798b292066ed271", func := "leapfrog/leapfroglaw08.LinkSame", spec := "linkSame", named := ["leapfrog/key.ranks"], plainKeys := false, apart := false, laid := [("leapfrog/key.ranks", laid_leapfrog_key_ranks)], narrowed := true }
def LinkSameUptoSaid : Prop := linkSameUptoRow.holds Tryd.pinned (OpenSpec.upto linkSameSpec)

/-- 'leapfroglaw08.LinkSorted', WHERE WHAT IT READS IS OF BULK AT MOST 1048576: true; the input reads as it did. -/
def linkSortedUptoRow : OpenClaim := { program := "ytledkljffjomdaadoor", sum := "49176c3836d6ef95a5c347c91d9ec03843d53b7e29dce0ff5798b292066ed271", func := "leapfrog/leapfroglaw08.LinkSorted", spec := "linkSorted", unfollowed := true, recurses := true, named := ["leapfrog/key.ranks"], plainKeys := false, apart := false, laid := [("leapfrog/key.ranks", laid_leapfrog_key_ranks)], narrowed := true }
def LinkSortedUptoSaid : Prop := linkSortedUptoRow.holds Tryd.pinned (OpenSpec.upto linkSortedSpec)

/-- 'leapfroglaw08.LinkApart', WHERE WHAT IT READS IS OF BULK AT MOST 1048576: true; the input reads as it did. -/
def linkApartUptoRow : OpenClaim := { program := "ytledkljffjomdaadoor", sum := "49176c3836d6ef95a5c347c91d9ec03843d53b7e29dce0ff5798b292066ed271", func := "leapfrog/leapfroglaw08.LinkApart", spec := "linkApart", named := ["leapfrog/key.ranks"], plainKeys := false, apart := false, laid := [("leapfrog/key.ranks", laid_leapfrog_key_ranks)], narrowed := true }
def LinkApartUptoSaid : Prop := linkApartUptoRow.holds Tryd.pinned (OpenSpec.upto linkApartSpec)

/-- 'leapfroglaw08.LinkAgain', WHERE WHAT IT READS IS OF BULK AT MOST 1048576: true; the input reads as it did. -/
def linkAgainUptoRow : OpenClaim := { program := "ytledkljffjomdaadoor", sum := "49176c3836d6ef95a5c347c91d9ec03843d53b7e29dce0ff5798b292066ed271", func := "leapfrog/leapfroglaw08.LinkAgain", spec := "linkAgain", named := ["leapfrog/key.ranks"], plainKeys := false, apart := false, laid := [("leapfrog/key.ranks", laid_leapfrog_key_ranks)], narrowed := true }
def LinkAgainUptoSaid : Prop := linkAgainUptoRow.holds Tryd.pinned (OpenSpec.upto linkAgainSpec)

/-- 'leapfroglaw08.LinkNobody', WHERE WHAT IT READS IS OF BULK AT MOST 1048576: true; the input reads as it did. -/
def linkNobodyUptoRow : OpenClaim := { program := "ytledkljffjomdaadoor", sum := "49176c3836d6ef95a5c347c91d9ec03843d53b7e29dce0ff5798b292066ed271", func := "leapfrog/leapfroglaw08.LinkNobody", spec := "linkNobody", unfollowed := true, recurses := true, named := ["leapfrog/key.ranks"], plainKeys := false, apart := false, laid := [("leapfrog/key.ranks", laid_leapfrog_key_ranks)], narrowed := true }
def LinkNobodyUptoSaid : Prop := linkNobodyUptoRow.holds Tryd.pinned (OpenSpec.upto linkNobodySpec)

end Rows
end Go.Proofs.YtledkljffjomdaaDoor
