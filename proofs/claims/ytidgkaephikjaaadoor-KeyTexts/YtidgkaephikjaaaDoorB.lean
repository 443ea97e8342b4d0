/- Package key: Compare and Less; the document's Compare and Less. -/
import Derived.Test.YtidgkaephikjaaaDoorA
namespace Go.Proofs.YtidgkaephikjaaaDoor
open Go.RowKit

set_option maxHeartbeats 1000000 in
theorem kCompare_any (r n s m : Int) (w : World) :
    Calls Tryd.prog 11 #[(.agg #[.int .i64 (r), .int .u64 (n)]), (.agg #[.int .i64 (s), .int .u64 (m)])] w fun e w' => e = .returned (.int .i64 (kcmp (r, n) (s, m))) ∧ Gr w w' := by
  go_enter Tryd.func11, Tryd.ntmps11
  go_wp2
  have I1 := Is2.new (w.alloc (.cells #[.int .i64 r, .int .u64 n] 25)) (.int .i64 s) (.int .u64 m)
  have I0 := (Is2.new w (.int .i64 r) (.int .u64 n)).alloc (.cells #[.int .i64 s, .int .u64 m] 25)
  have HG := hide (((Gr.refl w).alloc (.cells #[.int .i64 r, .int .u64 n] 25)).alloc (.cells #[.int .i64 s, .int .u64 m] 25))
  rw [World.size_alloc] at I1
  generalize (w.alloc (.cells #[.int .i64 r, .int .u64 n] 25)).alloc (.cells #[.int .i64 s, .int .u64 m] 25) = W at I0 I1 HG ⊢
  obtain ⟨a0, a1, -, -⟩ := I0.c
  obtain ⟨b0, b1, -, -⟩ := I1.c
  have hz := I1.lt
  clear I0 I1
  go_region_held3 (fun w' => w'.cell? ⟨w.heap.size, 0, none⟩ = some (.int .i64 r) ∧ w'.cell? ⟨w.heap.size, 1, none⟩ = some (.int .u64 n) ∧ w'.cell? ⟨w.heap.size + 1, 0, none⟩ = some (.int .i64 s) ∧ w'.cell? ⟨w.heap.size + 1, 1, none⟩ = some (.int .u64 m) ∧ w.heap.size + 1 < w'.heap.size)
    (first | (go_keep; done) | (refine ⟨?_, ?_, ?_, ?_, ?_⟩ <;> first | (go_keep; done) | assumption | (rw [World.cell?_alloc_lt _ _ _ (by simp; omega)]; assumption) | (simp; omega)))
    (first
      | (go_at_call 38; refine (cmpR_any r s _).mono ?_; rintro e w' ⟨rfl, rfl⟩)
      | (go_at_call 39; refine (cmpU_any n m _).mono ?_; rintro e w' ⟨rfl, rfl⟩)
      | (go_at_call 37; refine (or_any _ _ _ (cmpI r s) (cmpI n m) _ (by simp) (by simp)).mono ?_; rintro e w' ⟨rfl, rfl⟩))
  go_wp2
  go_ret
  exact ⟨rfl, HG.out.trans (by repeat (first | exact Gr.refl _ | apply Gr.alloc | apply Gr.drew | apply Gr.drewN))⟩

set_option maxHeartbeats 1000000 in
theorem kLess_any (r n s m : Int) (w : World) :
    Calls Tryd.prog 13 #[(.agg #[.int .i64 (r), .int .u64 (n)]), (.agg #[.int .i64 (s), .int .u64 (m)])] w fun e w' => e = .returned (.bool (klt (r, n) (s, m))) ∧ Gr w w' := by
  go_enter Tryd.func13, Tryd.ntmps13
  go_wp2_with fail
  refine (kCompare_any r n s m _).mono ?_; rintro e w1 ⟨rfl, hg⟩
  go_wp2
  go_ret
  exact ⟨rfl, Gr.trans (by repeat (first | exact Gr.refl _ | apply Gr.alloc)) hg⟩

end Go.Proofs.YtidgkaephikjaaaDoor
