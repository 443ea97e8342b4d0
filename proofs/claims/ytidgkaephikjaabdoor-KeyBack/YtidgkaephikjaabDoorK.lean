/- Regions that draw their order, walked once, where callees may turn whatever is new; KeyOrders, walked. -/
import Derived.Test.YtidgkaephikjaabDoorJ
namespace Go.Proofs.YtidgkaephikjaabDoor
open Go.RowKit

/-- A world in which all that lay in W lies as it did. -/
structure Bel (W : World) where
  v : World
  h : Below W.heap.size W v

theorem wp_region_bel {P : Program} {id : Nat} {Q : Exit → Act → World → Prop} {a : Act} {w : World} {l : List Oper} (hm : P.follows .mixedOrders = true) (hB : Region.lexB .any l.toArray = true)
    (h : wpQuiet P l.toArray (fun w' => ∃ p : Bel w, w' = p.v) (fun a' => ∀ w', (∃ p : Bel w, w' = p.v) → Q .normal a' w') l a) : (Code.region id l.toArray true).wp P Q a w :=
  wp_region_quiet (C := fun w' => ∃ p : Bel w, w' = p.v) hm hB ⟨⟨w.drew, (Below.refl _ _).drew⟩, rfl⟩ (by simpa using h)

theorem bel_of {P : Program} {f : FuncId} {args : Array Value} {w : World} {v : Value} (p : Bel w)
    (h : Calls P f args p.v fun e w' => e = .returned v ∧ Below p.v.heap.size p.v w') : Calls P f args p.v fun e w'' => e = .returned v ∧ ∃ q : Bel w, w'' = q.v :=
  h.mono fun _ w'' ⟨he, hb⟩ => ⟨he, ⟨w'', p.h.trans (hb.mono p.h.size)⟩, rfl⟩
theorem bel_gr {P : Program} {f : FuncId} {args : Array Value} {w : World} {v : Value} (p : Bel w)
    (h : Calls P f args p.v fun e w' => e = .returned v ∧ Gr p.v w') : Calls P f args p.v fun e w'' => e = .returned v ∧ ∃ q : Bel w, w'' = q.v :=
  bel_of p (h.mono fun _ _ ⟨he, hg⟩ => ⟨he, hg.below⟩)
theorem bel_cell {w : World} {a : Addr} {v : Value} (h : w.cell? a = some v) (p : Bel w) : p.v.cell? a = some v := by
  rw [p.h.cell (lt_of_cell h)]; exact h



end Go.Proofs.YtidgkaephikjaabDoor
