/- What a slice that is handed in has. -/
import Derived.Test.YtmhcmlegdoapdaaDoorPA
import Derived.OpenShut
namespace Go.Proofs.YtmhcmlegdoapdaaDoor
open Go.ChangeShapes Go.WideShapes Go.ChangeAt Go.RowKit

theorem cell_has {P : Program} {e t : TypeId} (ht : P.underlying t = some (.slice e)) {W : World} {base : Nat} {ad : Addr} {len cap : Nat} (h : Cell.ok P W .any base t (.slice (some ad) len cap)) : len ≤ cap ∧ (cap : Int) ≤ IntKind.i64.max ∧ W.has P .any base ad e cap := by
  unfold Cell.ok at h
  rw [ht] at h
  exact h
theorem okWide_has {P : Program} {e t : TypeId} (ht : P.underlying t = some (.slice e)) {W : World} {base : Nat} {ad : Addr} {len cap : Nat} (h : Value.okWide P W .any base t (.slice (some ad) len cap)) : len ≤ cap ∧ cap ≤ 9223372036854775807 ∧ ad.spot = none ∧ ad.block < W.heap.size := by
  have h0 : Cell.ok P W .any base t (.slice (some ad) len cap) := by
    unfold Value.okWide at h
    rw [ht] at h
    unfold Cell.okWide at h
    rw [ht] at h
    exact h
  obtain ⟨h1, h2, -, h3, row, cells, h4, -⟩ := cell_has ht h0
  refine ⟨h1, ?_, h3, ?_⟩
  · have h2' : (cap : Int) ≤ 9223372036854775807 := h2
    omega
  · unfold World.shape? at h4
    rcases Nat.lt_or_ge ad.block W.heap.size with h5 | h5
    · exact h5
    · rw [Array.getElem?_eq_none h5] at h4; cases h4

end Go.Proofs.YtmhcmlegdoapdaaDoor
