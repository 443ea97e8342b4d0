/- What an owner, an act, a claim that came in look like. -/
import Derived.Test.YtapknlmplhjfeaaLH
import Derived.ProofKit
import Derived.OpenShut
import Derived.ShutString
import Derived.ChangeOld
import Derived.Below
import Derived.Lib.SmallJoins
import Derived.Deep.Slices
namespace Go.Proofs.Ytapknlmplhjfeaa
open Go.ChangeShapes Go.WideShapes Go.ChangeAt Go.RowKit Go.Joins

theorem Try.ownKnob0 : ownKnob Try.prog.godebug = none := by kernel_rfl
theorem Try.laidOut0 : laidOutB Try.prog = true := by kernel_rfl
theorem cellsOw : Try.prog.cellsOf 27 = 2 := by kernel_rfl
theorem cellsIn : Try.prog.cellsOf 3 = 1 := by kernel_rfl
theorem cellsBo : Try.prog.cellsOf 4 = 1 := by kernel_rfl
theorem list2 {α : Type} {cs : List α} (h : cs.length = 2) : ∃ c0 c1, cs = [c0, c1] := by
  match cs, h with
  | [c0, c1], _ => exact ⟨c0, c1, rfl⟩

section
variable {H : Type} {enc : TypeId × Value → H} {W : World} {base : Nat} {sp : Nat → Bool} {held : Bool}
theorem open_owner {n : Nat} {cs : List Value} {x : DataW H × List MemPlace} (h : DataW.trod enc Try.prog W base sp held n 27 cs = some x) : ∃ a o, cs = [.int .i64 a, .int .i64 o] := by
  obtain ⟨u0, u1, n3, -, hl, k0, k1⟩ := trod_struct2 Try.underlying27 h
  rw [cellsOw] at hl
  obtain ⟨c0, c1, rfl⟩ := list2 hl
  simp only [cellsIn, List.drop_succ_cons, List.drop_zero, List.take_succ_cons, List.take_zero] at k0 k1
  obtain ⟨a, e4, -, -⟩ := DataW.trod_int Try.underlying3 k0
  obtain ⟨o, e5, -, -⟩ := DataW.trod_int Try.underlying3 k1
  simp at e4 e5
  subst e4 e5
  exact ⟨a, o, rfl⟩
end

end Go.Proofs.Ytapknlmplhjfeaa
