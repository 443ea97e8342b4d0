/- What each statement asks for at its head: the ends, and what stands between. -/
import Derived.Test.YtidgkaephikjaaaDoorG
import Derived.Test.YtidgkaephikjaaaDoorSG
import Derived.Test.YtidgkaephikjaaaDoorLN
import Derived.Shelf.Strconv.Itoa1
namespace Go.Proofs.YtidgkaephikjaaaDoor
open Go.Shelf Go.RowKit Go.Lib Go.Sort

theorem Is2.below {w w' : World} {b : Nat} {x y : Value} (h : Is2 w b x y) (hb : RowKit.Below w.heap.size w w') : Is2 w' b x y := (hb.block b h.lt).trans h

theorem fmt_small (i : Nat) (h : i < 100) (w : World) :
    Calls Tryd.prog 46 #[.int .u64 i, .int .i64 10] w fun e w' => e = .returned (.string ⟨(Lib.decDigits i).toArray⟩) ∧ Gr w w' := by
  have hs := Any.internal_strconv_small Tryd.l283 i h w
  change Calls Tryd.prog 78 _ w _ at hs
  have h1 : (i : Int) < 100 := by omega
  have h2 : IntKind.i64.wrap (i : Int) = i := by simp [IntKind.wrap, IntKind.bits, IntKind.signed]; omega
  go_enter Tryd.func46, Tryd.ntmps46
  go_wp2_with (first
    | (go_at_call 78; refine hs.mono ?_; rintro e w1 ⟨rfl, rfl⟩)
    | go_in)
  go_ret
  exact ⟨rfl, Gr.refl _⟩

set_option maxHeartbeats 400000 in
theorem rAt_any (n : Int) (w : World) : Calls Tryd.prog 40 #[.int .u64 n] w fun e w' => e = .returned (.agg #[.int .i64 (2), .int .u64 (n)]) ∧ Gr w w' := by
  go_enter Tryd.func40, Tryd.ntmps40
  go_wp2
  go_returns
  exact ⟨rfl, by repeat (first | exact Gr.refl _ | apply Gr.alloc | (refine Gr.set ?_ _ _ _ (Nat.le_refl _)))⟩

end Go.Proofs.YtidgkaephikjaaaDoor
