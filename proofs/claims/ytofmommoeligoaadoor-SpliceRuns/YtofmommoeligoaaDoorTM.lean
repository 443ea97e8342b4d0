/- A script that can be read. -/
import Derived.Test.YtofmommoeligoaaDoorTA
namespace Go.Proofs.YtofmommoeligoaaDoor
open Go.RowKit Go.Maps

/-- An act: a tick, or an answer. -/
def opL (p : Bool × An) : List Value := .bool p.1 :: anL p.2
/-- A script that can be read. -/
def OpSl (w : World) (v : Value) (l : List (Bool × An)) : Prop := (v = .slice none 0 0 ∧ l = []) ∨ ∃ g o c, v = .slice (some ⟨g, o, none⟩) l.length c ∧ l.length ≤ c ∧ c ≤ maxLen ∧ g < w.heap.size ∧ ∀ j (hj : j < l.length) k, k < 14 → w.cell? ⟨g, o + j * 14 + k, none⟩ = (opL l[j])[k]?
theorem OpSl.below {w w' : World} {v : Value} {l : List (Bool × An)} (h : OpSl w v l) (hb : Below w.heap.size w w') : OpSl w' v l := by
  rcases h with h | ⟨g, o, c, rfl, h1, h2, h3, h4⟩
  · exact Or.inl h
  · refine Or.inr ⟨g, o, c, rfl, h1, h2, Nat.lt_of_lt_of_le h3 hb.size, fun j hj k hk => ?_⟩
    rw [← h4 j hj k hk]
    exact hb.cell h3
theorem OpSl.shape {w : World} {v : Value} {l : List (Bool × An)} (h : OpSl w v l) : ∃ a c, v = .slice a l.length c ∧ l.length ≤ c ∧ c ≤ maxLen := by
  rcases h with ⟨rfl, rfl⟩ | ⟨g, o, c, rfl, h1, h2, h3, h4⟩
  · exact ⟨none, 0, rfl, Nat.le_refl _, by unfold maxLen; omega⟩
  · exact ⟨_, c, rfl, h1, h2⟩
theorem OpSl.at {w : World} {v : Value} {l : List (Bool × An)} (h : OpSl w v l) (j : Nat) (hj : j < l.length) : ∃ g o c, v = .slice (some ⟨g, o, none⟩) l.length c ∧ l.length ≤ c ∧ w.cell? ⟨g, o + j * 14, none⟩ = some (.bool l[j].1) ∧ (Instr.loadAt 57 (.pointer (some ⟨g, o + j * 14 + 1, none⟩))).run Tryd.prog w = .ok (.agg (anL l[j].2).toArray) w := by
  rcases h with ⟨rfl, rfl⟩ | ⟨g, o, c, rfl, h1, h2, h3, h4⟩
  · simp at hj
  · refine ⟨g, o, c, rfl, h1, h4 j hj 0 (by omega), ?_⟩
    refine run_loadAt_mid w g (o + j * 14 + 1) 57 (anL l[j].2) _ (fun k v hk => ?_) Tryd.underlying57 rfl (by kernel_rfl)
    have hk2 : k < 13 := (List.getElem?_eq_some_iff.1 hk).1
    have := h4 j hj (1 + k) (by omega)
    rw [show o + j * 14 + 1 + k = o + j * 14 + (1 + k) by omega, this, ← hk, Nat.add_comm 1 k]
    rfl

end Go.Proofs.YtofmommoeligoaaDoor
