/- The document's order of keys (chapter 9). -/
import Derived.Test.YtdhmdmlbhphdcaaDoorGE
namespace Go.Proofs.YtdhmdmlbhphdcaaDoor
open Go.RowKit Go.Maps Go.ChangeMaps

set_option maxHeartbeats 1000000 in
set_option maxRecDepth 100000 in
theorem r9Less_any (x y : Rf) (w : World) :
    Calls Tryd.prog 7 #[.agg #[.int .i64 x.rk, .int .u64 x.kn], .agg #[.int .i64 y.rk, .int .u64 y.kn]] w fun e w' => e = .returned (.bool (decide (keyLt x y))) ∧ Below w.heap.size w w' := by
  obtain ⟨x0, x1, x2, x3, x4⟩ := x
  obtain ⟨y0, y1, y2, y3, y4⟩ := y
  simp only [keyLt]
  by_cases h1 : x1 < y1
  · have d1 : decide (x1 < y1) = true := decide_eq_true h1
    have e1 : decide (x1 < y1 ∨ x1 = y1 ∧ x2 < y2) = true := decide_eq_true (Or.inl h1)
    rw [e1]
    go_enter Tryd.func7, Tryd.ntmps7
    go_wp2
    go_ret
    exact ⟨rfl, by repeat (first | exact Below.refl _ _ | refine Below.alloc ?_ (by simp) _)⟩
  have d1 : decide (x1 < y1) = false := decide_eq_false h1
  by_cases h2 : x1 = y1
  · subst h2
    have d2 : (x1 == x1) = true := by simp
    by_cases h3 : x2 < y2
    · have d3 : decide (x2 < y2) = true := decide_eq_true h3
      have e1 : decide (x1 < x1 ∨ x1 = x1 ∧ x2 < y2) = true := decide_eq_true (Or.inr ⟨rfl, h3⟩)
      rw [e1]
      go_enter Tryd.func7, Tryd.ntmps7
      go_wp2
      go_ret
      exact ⟨rfl, by repeat (first | exact Below.refl _ _ | refine Below.alloc ?_ (by simp) _)⟩
    · have d3 : decide (x2 < y2) = false := decide_eq_false h3
      have e1 : decide (x1 < x1 ∨ x1 = x1 ∧ x2 < y2) = false := decide_eq_false (by omega)
      rw [e1]
      go_enter Tryd.func7, Tryd.ntmps7
      go_wp2
      go_ret
      exact ⟨rfl, by repeat (first | exact Below.refl _ _ | refine Below.alloc ?_ (by simp) _)⟩
  · have d2 : (x1 == y1) = false := by simpa using h2
    have e1 : decide (x1 < y1 ∨ x1 = y1 ∧ x2 < y2) = false := decide_eq_false (by omega)
    rw [e1]
    go_enter Tryd.func7, Tryd.ntmps7
    go_wp2
    go_ret
    exact ⟨rfl, by repeat (first | exact Below.refl _ _ | refine Below.alloc ?_ (by simp) _)⟩

end Go.Proofs.YtdhmdmlbhphdcaaDoor
