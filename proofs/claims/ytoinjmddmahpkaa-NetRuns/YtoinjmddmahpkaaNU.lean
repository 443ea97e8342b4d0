/- A script that came in. -/
import Derived.Test.YtoinjmddmahpkaaNP
import Derived.Test.YtoinjmddmahpkaaNS
namespace Go.Proofs.Ytoinjmddmahpkaa
open Go.ChangeShapes Go.WideShapes Go.ChangeAt Go.RowKit Go.Joins

theorem open_script {H : Type} {enc : TypeId × Value → H} {W : World} {base : Nat} {sp : Nat → Bool} {held : Bool} {n : Nat} {cs : List Value} {x : DataW H × List MemPlace} (h : DataW.trod enc Try.prog W base sp held n 22 cs = some x) :
    ∃ a len cap, cs = [.slice a len cap] ∧ Scr W a len := by
  rcases Deep.open_slice Try.underlying22 h with ⟨hcs, -⟩ | ⟨a, len, cap, m, nn, D, Pl, hcs, -, hl, hmx, hm, -, hel⟩
  · exact ⟨none, 0, 0, hcs, Or.inl rfl⟩
  · refine ⟨some a, len, cap, hcs, ?_⟩
    rw [cellsOp] at hel
    have hlm : len ≤ m := by rw [hm]; split <;> omega
    rcases Nat.eq_zero_or_pos len with h0 | h0
    · exact Or.inl h0
    · right
      obtain ⟨g, o, spot⟩ := a
      have hspot : spot = none := by
        obtain ⟨cs', h1, h2⟩ := hel 0 (by omega)
        obtain ⟨-, hl', hc⟩ := World.cells?_some h1
        obtain ⟨kd, fa, fn, ta, tn, pa, pl, pc, I, K, rfl, -⟩ := open_op h2
        have h3 := hc 0 (by omega)
        have := World.cell?_spot h3
        cases spot with
        | none => rfl
        | some s => simp [Addr.add] at this
      subst hspot
      refine ⟨g, o, rfl, fun j hj => ?_⟩
      obtain ⟨cs', h1, h2⟩ := hel j (by omega)
      obtain ⟨-, hl', hc⟩ := World.cells?_some h1
      obtain ⟨kd, fa, fn, ta, tn, pa, pl, pc, I, K, rfl, e1, e2, e3⟩ := open_op h2
      refine ⟨⟨kd, fa, fn, ta, tn, pa, pl, pc, I, K⟩, fun c hc8 => ?_, e1, e2, e3⟩
      have h3 := hc c (by omega)
      rw [add_none, add_none] at h3
      rw [h3]
      simp [OpV.cs]

end Go.Proofs.Ytoinjmddmahpkaa
