/- A row of calls that came in. -/
import Derived.Test.YtledkljffjomdaaDoorPO
import Derived.Test.YtledkljffjomdaaDoorJG
namespace Go.Proofs.YtledkljffjomdaaDoor
open Go.ChangeShapes Go.WideShapes Go.ChangeAt Go.RowKit Go.Joins

section
variable {H : Type} {enc : TypeId × Value → H} {W : World} {base : Nat} {sp : Nat → Bool} {held : Bool}
theorem open_ops {n : Nat} {cs : List Value} {x : DataW H × List MemPlace} (h : DataW.trod enc Tryd.prog W base sp held n 37 cs = some x) : ∃ v os, cs = [v] ∧ OpsAt W v os := by
  rcases Deep.open_slice Tryd.underlying37 h with ⟨hcs, -⟩ | ⟨a, len, cap, m, nn, D, Pl, hcs, -, hl, hmx, hm, -, hel⟩
  · exact ⟨_, [], hcs, none, 0, rfl, by simp, by simp, fun q => absurd q (by simp)⟩
  · rw [cellsOp] at hel
    have hlm : len ≤ m := by rw [hm]; split <;> omega
    rcases Nat.eq_zero_or_pos len with h0 | h0
    · subst h0
      exact ⟨_, [], hcs, some a, cap, rfl, by simp, by simp, fun q => absurd q (by simp)⟩
    · obtain ⟨g, o, spot⟩ := a
      have hspot : spot = none := by
        obtain ⟨cs', h1, h2⟩ := hel 0 (by omega)
        obtain ⟨-, hl', hc⟩ := World.cells?_some h1
        obtain ⟨p, rfl, -⟩ := open_op h2
        have h3 := hc 0 (by omega)
        have := World.cell?_spot h3
        cases spot with
        | none => rfl
        | some s => simp [Addr.add] at this
      subst hspot
      have key : ∀ j, j < len → ∃ p : Opv, (∀ c, c < 15 → W.cell? ⟨g, o + j * 15 + c, none⟩ = (opc p)[c]?) ∧ okOp p := fun j hj => by
        obtain ⟨cs', h1, h2⟩ := hel j (by omega)
        obtain ⟨-, hl', hc⟩ := World.cells?_some h1
        obtain ⟨p, rfl, hp⟩ := open_op h2
        refine ⟨p, fun c hc15 => ?_, hp⟩
        have h3 := hc c (by omega)
        rw [add_none, add_none] at h3
        rw [h3]
      haveI : Inhabited Opv := ⟨(0, (0, 0), (0, 0, 0, 0, 0), (0, 0, 0, 0, 0), (0, 0))⟩
      obtain ⟨f, hf⟩ := Deep.choose_lt key
      have hgl : g < W.heap.size := by
        have := (hf 0 h0).1 0 (by omega)
        exact lt_of_cell this
      refine ⟨_, (List.range len).map f, hcs, some ⟨g, o, none⟩, cap, by simp, by simp; omega, fun p hp => ?_, fun _ => ⟨g, o, rfl, hgl, fun j p hj => ?_⟩⟩
      · obtain ⟨i, hi, rfl⟩ := List.mem_map.1 hp
        exact (hf i (by simpa using hi)).2
      · have hjl : j < len := by
          have := (List.getElem?_eq_some_iff.1 hj).1
          simpa using this
        rw [List.getElem?_map, List.getElem?_range hjl] at hj
        simp at hj
        subst hj
        exact (hf j hjl).1
end

end Go.Proofs.YtledkljffjomdaaDoor
