/- What came in: a slice of answers. -/
import Derived.Test.YtdkadggcaobaaaaDoorPO
import Derived.Test.YtdkadggcaobaaaaDoorSW
namespace Go.Proofs.YtdkadggcaobaaaaDoor
open Go.RowKit Go.Maps Go.ChangeMaps

section
variable {H : Type} {enc : TypeId × Value → H} {W : World} {base : Nat} {sp : Nat → Bool} {held : Bool}
theorem open_answers {n : Nat} {a : Option Addr} {len cap : Nat} {x : DataW H × List MemPlace} (h : DataW.trod enc Tryd.prog W base sp held n 32 [.slice a len cap] = some x) (hv : ∀ ad, a = some ad → len ≤ cap ∧ cap ≤ 9223372036854775807 ∧ ad.spot = none ∧ ad.block < W.heap.size) :
    ∃ l, AnSl W (.slice a len cap) l ∧ ∀ q ∈ l, AOk q := by
  rcases Deep.open_slice Tryd.underlying32 h with ⟨hcs, -⟩ | ⟨ad, len', cap', m, nn, D, Pl, hcs, -, hl, hmx, hm, hx, hel⟩
  · simp at hcs
    obtain ⟨rfl, rfl, rfl⟩ := hcs
    exact ⟨[], Or.inl ⟨rfl, rfl⟩, by simp⟩
  · simp at hcs
    obtain ⟨rfl, rfl, rfl⟩ := hcs
    rw [cellsAn] at hel
    have hlm : len ≤ m := by rw [hm]; split <;> omega
    obtain ⟨h1, h2, h3, h4⟩ := hv ad rfl
    obtain ⟨g, o, spot⟩ := ad
    simp only [] at h3 h4
    subst h3
    have key : ∀ j, j < len → ∃ p : An, AOk p ∧ ∀ c, c < 13 → W.cell? ⟨g, o + j * 13 + c, none⟩ = (anL p)[c]? := fun j hj => by
      obtain ⟨cs', h5, h6⟩ := hel j (by omega)
      obtain ⟨-, hl', hc⟩ := World.cells?_some h5
      obtain ⟨p, rfl, ok⟩ := open_ans h6
      refine ⟨p, ok, fun c hc2 => ?_⟩
      have h7 := hc c (by omega)
      rw [add_none, add_none] at h7
      exact h7
    haveI : Inhabited An := ⟨⟨0, false, zr, zr, none, 0, 0⟩⟩
    obtain ⟨f, hf⟩ := Deep.choose_lt key
    refine ⟨(List.range len).map f, Or.inr ⟨g, o, cap, by simp, by simpa using h1, by unfold maxLen; omega, h4, fun j hj c hc => ?_⟩, fun q hq => ?_⟩
    · simp at hj
      simpa using (hf j hj).2 c hc
    · obtain ⟨j, hj, rfl⟩ := List.mem_map.mp hq
      exact (hf j (List.mem_range.mp hj)).1
end

end Go.Proofs.YtdkadggcaobaaaaDoor
