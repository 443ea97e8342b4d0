/- Walk: the three bits that each statement asks for. -/
import Derived.Test.YtdjlmmgnknfkfaaJ
namespace Go.Proofs.Ytdjlmmgnknfkfaa
open Go.RowKit

theorem tx35 : txS 3 5 = ⟨#[49, 48, 49]⟩ := by
  have h : rt 3 5 = true := by decide
  unfold txS; rw [if_pos h]; rfl
theorem rd10 : rdE (bs ⟨#[49, 48]⟩) = (2, 2, 0, 0) := by decide
theorem bg35 : bgS 3 5 2 2 = true := by decide
theorem re35 : reS 3 5 = 0 := by decide

set_option maxHeartbeats 1000000 in
theorem alive_any (w : World) :
    Calls Try.prog 19 #[] w fun e w' => e = .returned (.bool true) ∧ Below w.heap.size w w' := by
  go_enter Try.func19, Try.ntmps19
  go_wp2_with fail
  refine (vText_any 3 5 (by omega) _).mono ?_; rintro e w1 ⟨rfl, hb1⟩
  rw [tx35, re35]
  go_wp2_with fail
  refine (vRead_any _ (by decide) _).mono ?_; rintro e w2 ⟨rfl, hb2⟩
  rw [rd10, rdV]
  simp only []
  go_wp2_with fail
  refine (vBegins_any 3 5 2 2 (by omega) (by omega) _).mono ?_; rintro e w3 ⟨rfl, hb3⟩
  rw [bg35]
  go_wp2
  go_ret
  exact ⟨rfl, bstep (bstep hb1 hb2) (bx hb3)⟩

end Go.Proofs.Ytdjlmmgnknfkfaa
