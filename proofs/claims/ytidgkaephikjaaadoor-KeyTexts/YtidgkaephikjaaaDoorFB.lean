/- Package key: Text, of every key. -/
import Derived.Test.YtidgkaephikjaaaDoorFA
namespace Go.Proofs.YtidgkaephikjaaaDoor
open Go.RowKit

set_option maxHeartbeats 2000000 in
set_option maxRecDepth 100000 in
theorem kText_bad (r n : Int) (w : World) (hR : Ranks w) (hc : ckE r n = 20) :
    Calls Tryd.prog 29 #[(.agg #[.int .i64 (r), .int .u64 (n)])] w fun e w' => e = .returned (.tuple #[.string ⟨#[]⟩, .int .i64 20]) ∧ Gr w w' := by
  have ck := kCheck_any r n (w.alloc (.cells #[.int .i64 r, .int .u64 n] 25)) (hR.gr ((Gr.refl w).alloc _))
  rw [hc] at ck
  have HG := hide (show Gr w (w.alloc (.cells #[.int .i64 r, .int .u64 n] 25)) from (Gr.refl w).alloc _)
  clear hc hR
  go_enter Tryd.func29, Tryd.ntmps29
  go_wp2_with fail
  refine ck.mono ?_; rintro e w1 ⟨rfl, hg⟩
  go_wp2
  go_ret2
  exact ⟨rfl, HG.out.trans hg⟩

set_option maxHeartbeats 2000000 in
set_option maxRecDepth 100000 in
theorem kText_low (w : World) (hR : Ranks w) :
    Calls Tryd.prog 29 #[(.agg #[.int .i64 (1), .int .u64 (0)])] w fun e w' => e = .returned (.tuple #[.string ⟨#[45]⟩, .int .i64 0]) ∧ Gr w w' := by
  have ck := kCheck_any 1 0 (w.alloc (.cells #[.int .i64 1, .int .u64 0] 25)) (hR.gr ((Gr.refl w).alloc _))
  rw [show ckE 1 0 = 0 from by decide] at ck
  have HI := hide (Is2.new w (.int .i64 1) (.int .u64 0))
  have HG := hide (show Gr w (w.alloc (.cells #[.int .i64 1, .int .u64 0] 25)) from (Gr.refl w).alloc _)
  have HR := hide hR
  clear hR
  go_enter Tryd.func29, Tryd.ntmps29
  go_wp2_with fail
  refine ck.mono ?_; rintro e w1 ⟨rfl, hg⟩
  replace HI := hide (HI.out.gr hg)
  replace HG := hide (HG.out.trans hg)
  obtain ⟨h0, h1, h2, h3, h4, h5⟩ := HR.out.gr HG.out
  clear ck hg
  go_wp2
  clear h0 h1 h2 h3 h4 h5
  go_loopw [13] (fun i wr => i = .int .i64 0 ∧ Is2 wr w.heap.size (.int .i64 1) (.int .u64 0) ∧ Gr w wr) (fun i _ => 3 - (intOf i).toNat)
  case atStart => exact ⟨rfl, HI.out, HG.out⟩
  case round =>
    have x0 := rank0
    obtain ⟨rfl, I0, hg⟩ := hrel
    clear HI HG
    have HG := hide hg
    obtain ⟨a0, a1, -, -⟩ := I0.c
    have hlt := I0.lt
    clear I0 hg
    go_wp2
    go_ret2
    exact ⟨rfl, HG.out.alloc _⟩

set_option maxHeartbeats 2000000 in
set_option maxRecDepth 100000 in
theorem kText_high (w : World) (hR : Ranks w) :
    Calls Tryd.prog 29 #[(.agg #[.int .i64 (3), .int .u64 (0)])] w fun e w' => e = .returned (.tuple #[.string ⟨#[43]⟩, .int .i64 0]) ∧ Gr w w' := by
  have ck := kCheck_any 3 0 (w.alloc (.cells #[.int .i64 3, .int .u64 0] 25)) (hR.gr ((Gr.refl w).alloc _))
  rw [show ckE 3 0 = 0 from by decide] at ck
  have HI := hide (Is2.new w (.int .i64 3) (.int .u64 0))
  have HG := hide (show Gr w (w.alloc (.cells #[.int .i64 3, .int .u64 0] 25)) from (Gr.refl w).alloc _)
  have HR := hide hR
  clear hR
  go_enter Tryd.func29, Tryd.ntmps29
  go_wp2_with fail
  refine ck.mono ?_; rintro e w1 ⟨rfl, hg⟩
  replace HI := hide (HI.out.gr hg)
  replace HG := hide (HG.out.trans hg)
  obtain ⟨h0, h1, h2, h3, h4, h5⟩ := HR.out.gr HG.out
  clear ck hg
  go_wp2
  clear h0 h1 h2 h3 h4 h5
  go_loopw [13] (fun i wr => (i = .int .i64 0 ∨ i = .int .i64 1 ∨ i = .int .i64 2) ∧ Is2 wr w.heap.size (.int .i64 3) (.int .u64 0) ∧ Gr w wr) (fun i _ => 3 - (intOf i).toNat)
  case atStart => exact ⟨Or.inl rfl, HI.out, HG.out⟩
  case round =>
    have x0 := rank0
    have x1 := rank1
    have x2 := rank2
    obtain ⟨hi, I0, hg⟩ := hrel
    clear HI HG
    have HI := hide I0
    have HG := hide hg
    obtain ⟨a0, a1, -, -⟩ := I0.c
    have hlt := I0.lt
    clear I0 hg
    rcases hi with rfl | rfl | rfl
    · go_wp2
      go_roundw
      case rel => exact ⟨Or.inr (Or.inl rfl), HI.out.alloc _, HG.out.alloc _⟩
      case measure => simp [intOf]
    · go_wp2
      go_roundw
      case rel => exact ⟨Or.inr (Or.inr rfl), HI.out.alloc _, HG.out.alloc _⟩
      case measure => simp [intOf]
    · go_wp2
      go_ret2
      exact ⟨rfl, HG.out.alloc _⟩

end Go.Proofs.YtidgkaephikjaaaDoor
