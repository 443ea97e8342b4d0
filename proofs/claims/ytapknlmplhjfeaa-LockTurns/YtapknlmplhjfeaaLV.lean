/- A script that came in. -/
import Derived.Test.YtapknlmplhjfeaaLP
import Derived.Test.YtapknlmplhjfeaaLK
namespace Go.Proofs.Ytapknlmplhjfeaa
open Go.ChangeShapes Go.WideShapes Go.ChangeAt Go.RowKit Go.Joins

theorem cellsOp : Try.prog.cellsOf 33 = 3 := by kernel_rfl
theorem list3 {α : Type} {cs : List α} (h : cs.length = 3) : ∃ c0 c1 c2, cs = [c0, c1, c2] := by
  match cs, h with
  | [c0, c1, c2], _ => exact ⟨c0, c1, c2, rfl⟩

section
variable {H : Type} {enc : TypeId × Value → H} {W : World} {base : Nat} {sp : Nat → Bool} {held : Bool}
theorem open_op {n : Nat} {cs : List Value} {x : DataW H × List MemPlace} (h : DataW.trod enc Try.prog W base sp held n 33 cs = some x) : ∃ kd a o, cs = [.int .i64 kd, .int .i64 a, .int .i64 o] := by
  obtain ⟨u0, u1, n3, -, hl, k0, k1⟩ := trod_struct2 Try.underlying33 h
  rw [cellsOp] at hl
  obtain ⟨c0, c1, c2, rfl⟩ := list3 hl
  simp only [cellsIn, cellsOw, List.drop_succ_cons, List.drop_zero, List.take_succ_cons, List.take_zero] at k0 k1
  obtain ⟨kd, e4, -, -⟩ := DataW.trod_int Try.underlying3 k0
  obtain ⟨a, o, e5⟩ := open_owner k1
  simp at e4 e5
  obtain ⟨e5, e6⟩ := e5
  subst e4 e5 e6
  exact ⟨kd, a, o, rfl⟩

theorem open_script {n : Nat} {cs : List Value} {x : DataW H × List MemPlace} (h : DataW.trod enc Try.prog W base sp held n 22 cs = some x) :
    ∃ a len cap, cs = [.slice a len cap] ∧ Scr W a len := by
  rcases Deep.open_slice Try.underlying22 h with ⟨hcs, -⟩ | ⟨a, len, cap, m, nn, D, Pl, hcs, -, hl, hmx, hm, -, hel⟩
  · exact ⟨none, 0, 0, hcs, Or.inl rfl⟩
  · refine ⟨some a, len, cap, hcs, ?_⟩
    rw [cellsOp] at hel
    have hlm : len ≤ m := by rw [hm]; split <;> omega
    rcases Nat.eq_zero_or_pos len with h0 | h0
    · exact Or.inl h0
    · right
      obtain ⟨g, o, spot⟩ := a
      have hspot : spot = none := by
        obtain ⟨cs', h1, h2⟩ := hel 0 (by omega)
        obtain ⟨-, hl', hc⟩ := World.cells?_some h1
        obtain ⟨kd, x, y, rfl⟩ := open_op h2
        have h3 := hc 0 (by omega)
        have := World.cell?_spot h3
        cases spot with
        | none => rfl
        | some s => simp [Addr.add] at this
      subst hspot
      refine ⟨g, o, rfl, fun j hj => ?_⟩
      obtain ⟨cs', h1, h2⟩ := hel j (by omega)
      obtain ⟨-, hl', hc⟩ := World.cells?_some h1
      obtain ⟨kd, x, y, rfl⟩ := open_op h2
      have key : ∀ c, c < 3 → W.cell? ⟨g, o + j * 3 + c, none⟩ = [Value.int .i64 kd, .int .i64 x, .int .i64 y][c]? := fun c hc3 => by
        have h3 := hc c (by omega)
        rw [add_none, add_none] at h3
        rw [h3]
      exact ⟨kd, x, y, key 0 (by omega), key 1 (by omega), key 2 (by omega)⟩
end

end Go.Proofs.Ytapknlmplhjfeaa
