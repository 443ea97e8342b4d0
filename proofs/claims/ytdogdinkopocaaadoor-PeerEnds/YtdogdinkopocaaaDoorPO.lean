/- What came in: vectors, references, owners, records, calls. -/
import Derived.Test.YtdogdinkopocaaaDoorKT
import Derived.Test.YtdogdinkopocaaaDoorKM
import Derived.ProofKit
import Derived.OpenShut
import Derived.ShutString
import Derived.ChangeOld
import Derived.Below
import Derived.Lib.SmallJoins
import Derived.Deep.Slices
namespace Go.Proofs.YtdogdinkopocaaaDoor
open Go.ChangeShapes Go.WideShapes Go.ChangeAt Go.RowKit Go.Joins

theorem cellsIn : Tryd.prog.cellsOf 3 = 1 := by kernel_rfl
theorem cellsU6 : Tryd.prog.cellsOf 23 = 1 := by kernel_rfl
theorem cellsBo : Tryd.prog.cellsOf 4 = 1 := by kernel_rfl
theorem cellsRk : Tryd.prog.cellsOf 22 = 1 := by kernel_rfl
theorem cellsVc : Tryd.prog.cellsOf 27 = 2 := by kernel_rfl
theorem cellsKy : Tryd.prog.cellsOf 25 = 2 := by kernel_rfl
theorem cellsOw : Tryd.prog.cellsOf 52 = 2 := by kernel_rfl
theorem cellsRf : Tryd.prog.cellsOf 29 = 5 := by kernel_rfl
theorem cellsAk : Tryd.prog.cellsOf 56 = 1 := by kernel_rfl
theorem cellsOp : Tryd.prog.cellsOf 58 = 15 := by kernel_rfl
theorem list2 {α : Type} {cs : List α} (h : cs.length = 2) : ∃ c0 c1, cs = [c0, c1] := by
  match cs, h with
  | [c0, c1], _ => exact ⟨c0, c1, rfl⟩
theorem list5 {α : Type} {cs : List α} (h : cs.length = 5) : ∃ c0 c1 c2 c3 c4, cs = [c0, c1, c2, c3, c4] := by
  match cs, h with
  | [c0, c1, c2, c3, c4], _ => exact ⟨c0, c1, c2, c3, c4, rfl⟩
theorem list15 {α : Type} {cs : List α} (h : cs.length = 15) : ∃ c0 c1 c2 c3 c4 c5 c6 c7 c8 c9 c10 c11 c12 c13 c14, cs = [c0, c1, c2, c3, c4, c5, c6, c7, c8, c9, c10, c11, c12, c13, c14] := by
  match cs, h with
  | [c0, c1, c2, c3, c4, c5, c6, c7, c8, c9, c10, c11, c12, c13, c14], _ => exact ⟨c0, c1, c2, c3, c4, c5, c6, c7, c8, c9, c10, c11, c12, c13, c14, rfl⟩
theorem list16 {α : Type} {cs : List α} (h : cs.length = 16) : ∃ c0 c1 c2 c3 c4 c5 c6 c7 c8 c9 c10 c11 c12 c13 c14 c15, cs = [c0, c1, c2, c3, c4, c5, c6, c7, c8, c9, c10, c11, c12, c13, c14, c15] := by
  match cs, h with
  | [c0, c1, c2, c3, c4, c5, c6, c7, c8, c9, c10, c11, c12, c13, c14, c15], _ => exact ⟨c0, c1, c2, c3, c4, c5, c6, c7, c8, c9, c10, c11, c12, c13, c14, c15, rfl⟩

/-- A reference whose vector's numbers are those of machines. -/
def okW (p : Int × Int) : Prop := (Lit.int .i64 p.1).wf = true ∧ (Lit.int .i64 p.2).wf = true
def okR (x : Rf) : Prop := okV (x.2.2.2.1, x.2.2.2.2)
theorem okV.pos {v : Vc} (h : okV v) : 0 ≤ v.2 := by
  have := h.2
  simp [Lit.wf] at this
  exact this.1

section
variable {H : Type} {enc : TypeId × Value → H} {W : World} {base : Nat} {sp : Nat → Bool} {held : Bool}
theorem trod_struct5 {P : Program} {w : World} {spare : Nat → Bool} {t : TypeId} {f0 f1 f2 f3 f4 : Field} {fuel : Nat} {cs : List Value} {x : DataW H × List MemPlace} (ht : P.underlying t = some (.struct #[f0, f1, f2, f3, f4])) (h : DataW.trod enc P w base spare held fuel t cs = some x) :
    ∃ y0 y1 y2 y3 y4 n, cs.length = P.cellsOf t ∧ DataW.trod enc P w base spare held n f0.type ((cs.drop f0.offset).take (P.cellsOf f0.type)) = some y0 ∧ DataW.trod enc P w base spare held n f1.type ((cs.drop f1.offset).take (P.cellsOf f1.type)) = some y1 ∧ DataW.trod enc P w base spare held n f2.type ((cs.drop f2.offset).take (P.cellsOf f2.type)) = some y2 ∧ DataW.trod enc P w base spare held n f3.type ((cs.drop f3.offset).take (P.cellsOf f3.type)) = some y3 ∧ DataW.trod enc P w base spare held n f4.type ((cs.drop f4.offset).take (P.cellsOf f4.type)) = some y4 := by
  obtain ⟨xs, n, _, rfl, hl, hlen, hf⟩ := DataW.trod_struct ht h
  match xs, hlen with
  | [y0, y1, y2, y3, y4], _ => exact ⟨y0, y1, y2, y3, y4, n, hl, by simpa using hf 0 f0 rfl, by simpa using hf 1 f1 rfl, by simpa using hf 2 f2 rfl, by simpa using hf 3 f3 rfl, by simpa using hf 4 f4 rfl⟩
theorem trod_struct6 {P : Program} {w : World} {spare : Nat → Bool} {t : TypeId} {f0 f1 f2 f3 f4 f5 : Field} {fuel : Nat} {cs : List Value} {x : DataW H × List MemPlace} (ht : P.underlying t = some (.struct #[f0, f1, f2, f3, f4, f5])) (h : DataW.trod enc P w base spare held fuel t cs = some x) :
    ∃ y0 y1 y2 y3 y4 y5 n, cs.length = P.cellsOf t ∧ DataW.trod enc P w base spare held n f0.type ((cs.drop f0.offset).take (P.cellsOf f0.type)) = some y0 ∧ DataW.trod enc P w base spare held n f1.type ((cs.drop f1.offset).take (P.cellsOf f1.type)) = some y1 ∧ DataW.trod enc P w base spare held n f2.type ((cs.drop f2.offset).take (P.cellsOf f2.type)) = some y2 ∧ DataW.trod enc P w base spare held n f3.type ((cs.drop f3.offset).take (P.cellsOf f3.type)) = some y3 ∧ DataW.trod enc P w base spare held n f4.type ((cs.drop f4.offset).take (P.cellsOf f4.type)) = some y4 ∧ DataW.trod enc P w base spare held n f5.type ((cs.drop f5.offset).take (P.cellsOf f5.type)) = some y5 := by
  obtain ⟨xs, n, _, rfl, hl, hlen, hf⟩ := DataW.trod_struct ht h
  match xs, hlen with
  | [y0, y1, y2, y3, y4, y5], _ => exact ⟨y0, y1, y2, y3, y4, y5, n, hl, by simpa using hf 0 f0 rfl, by simpa using hf 1 f1 rfl, by simpa using hf 2 f2 rfl, by simpa using hf 3 f3 rfl, by simpa using hf 4 f4 rfl, by simpa using hf 5 f5 rfl⟩
theorem open_vec {n : Nat} {cs : List Value} {x : DataW H × List MemPlace} (h : DataW.trod enc Tryd.prog W base sp held n 27 cs = some x) : ∃ v : Vc, cs = [.int .i64 v.1, .int .u64 v.2] ∧ okV v := by
  obtain ⟨u0, u1, n3, -, hl, k0, k1⟩ := trod_struct2 Tryd.underlying27 h
  rw [cellsVc] at hl
  obtain ⟨c0, c1, rfl⟩ := list2 hl
  simp only [cellsIn, cellsU6, List.drop_succ_cons, List.drop_zero, List.take_succ_cons, List.take_zero] at k0 k1
  obtain ⟨a, e4, -, w4⟩ := DataW.trod_int Tryd.underlying3 k0
  obtain ⟨o, e5, -, w5⟩ := DataW.trod_int Tryd.underlying23 k1
  simp at e4 e5
  subst e4 e5
  exact ⟨(a, o), rfl, w4, w5⟩
theorem open_key {n : Nat} {cs : List Value} {x : DataW H × List MemPlace} (h : DataW.trod enc Tryd.prog W base sp held n 25 cs = some x) : ∃ a o, cs = [.int .i64 a, .int .u64 o] := by
  obtain ⟨u0, u1, n3, -, hl, k0, k1⟩ := trod_struct2 Tryd.underlying25 h
  rw [cellsKy] at hl
  obtain ⟨c0, c1, rfl⟩ := list2 hl
  simp only [cellsRk, cellsU6, List.drop_succ_cons, List.drop_zero, List.take_succ_cons, List.take_zero] at k0 k1
  obtain ⟨a, e4, -, -⟩ := DataW.trod_int Tryd.underlying22 k0
  obtain ⟨o, e5, -, -⟩ := DataW.trod_int Tryd.underlying23 k1
  simp at e4 e5
  subst e4 e5
  exact ⟨a, o, rfl⟩
theorem open_owner {n : Nat} {cs : List Value} {x : DataW H × List MemPlace} (h : DataW.trod enc Tryd.prog W base sp held n 52 cs = some x) : ∃ p : Ow, cs = [.int .i64 p.1, .int .i64 p.2] ∧ okW p := by
  obtain ⟨u0, u1, n3, -, hl, k0, k1⟩ := trod_struct2 Tryd.underlying52 h
  rw [cellsOw] at hl
  obtain ⟨c0, c1, rfl⟩ := list2 hl
  simp only [cellsIn, List.drop_succ_cons, List.drop_zero, List.take_succ_cons, List.take_zero] at k0 k1
  obtain ⟨a, e4, -, w4⟩ := DataW.trod_int Tryd.underlying3 k0
  obtain ⟨o, e5, -, w5⟩ := DataW.trod_int Tryd.underlying3 k1
  simp at e4 e5
  subst e4 e5
  exact ⟨(a, o), rfl, w4, w5⟩
theorem open_ref {n : Nat} {cs : List Value} {y : DataW H × List MemPlace} (h : DataW.trod enc Tryd.prog W base sp held n 29 cs = some y) : ∃ x : Rf, cs = [.int .i64 x.1, .int .i64 x.2.1, .int .u64 x.2.2.1, .int .i64 x.2.2.2.1, .int .u64 x.2.2.2.2] ∧ okR x := by
  obtain ⟨z0, z1, z2, n2, -, hl, g0, g1, g2⟩ := Deep.trod_struct3 Tryd.underlying29 h
  rw [cellsRf] at hl
  obtain ⟨c0, c1, c2, c3, c4, rfl⟩ := list5 hl
  simp only [cellsIn, cellsKy, cellsVc, List.drop_succ_cons, List.drop_zero, List.take_succ_cons, List.take_zero] at g0 g1 g2
  obtain ⟨i, e0, -, -⟩ := DataW.trod_int Tryd.underlying3 g0
  obtain ⟨r, k, e1⟩ := open_key g1
  obtain ⟨v, e2, hv⟩ := open_vec g2
  simp at e0 e1 e2
  obtain ⟨e3, e4⟩ := e1
  obtain ⟨e5, e6⟩ := e2
  subst e0 e3 e4 e5 e6
  exact ⟨(i, r, k, v.1, v.2), rfl, hv⟩
/-- The cells of a call. -/
abbrev Opv := Int × Vc × Rf × Rf × Ow
def opc (o : Opv) : List Value := [.int .i64 o.1, .int .i64 o.2.1.1, .int .u64 o.2.1.2, .int .i64 o.2.2.1.1, .int .i64 o.2.2.1.2.1, .int .u64 o.2.2.1.2.2.1, .int .i64 o.2.2.1.2.2.2.1, .int .u64 o.2.2.1.2.2.2.2, .int .i64 o.2.2.2.1.1, .int .i64 o.2.2.2.1.2.1, .int .u64 o.2.2.2.1.2.2.1, .int .i64 o.2.2.2.1.2.2.2.1, .int .u64 o.2.2.2.1.2.2.2.2, .int .i64 o.2.2.2.2.1, .int .i64 o.2.2.2.2.2]
def okOp (o : Opv) : Prop := okV o.2.1 ∧ okR o.2.2.1 ∧ okR o.2.2.2.1 ∧ okW o.2.2.2.2
theorem open_op {n : Nat} {cs : List Value} {y : DataW H × List MemPlace} (h : DataW.trod enc Tryd.prog W base sp held n 58 cs = some y) : ∃ o : Opv, cs = opc o ∧ okOp o := by
  obtain ⟨y0, y1, y2, y3, y4, n2, hl, g0, g1, g2, g3, g4⟩ := trod_struct5 Tryd.underlying58 h
  rw [cellsOp] at hl
  obtain ⟨c0, c1, c2, c3, c4, c5, c6, c7, c8, c9, c10, c11, c12, c13, c14, rfl⟩ := list15 hl
  simp only [cellsAk, cellsVc, cellsRf, cellsOw, List.drop_succ_cons, List.drop_zero, List.take_succ_cons, List.take_zero] at g0 g1 g2 g3 g4
  obtain ⟨i, e0, -, -⟩ := DataW.trod_int Tryd.underlying56 g0
  obtain ⟨v, e1, hv⟩ := open_vec g1
  obtain ⟨a, e2, ha⟩ := open_ref g2
  obtain ⟨b, e3, hb⟩ := open_ref g3
  obtain ⟨p, e4, hp⟩ := open_owner g4
  simp at e0 e1 e2 e3 e4
  refine ⟨(i, v, a, b, p), ?_, hv, ha, hb, hp⟩
  simp [opc, e0, e1, e2, e3, e4]
end

end Go.Proofs.YtdogdinkopocaaaDoor
