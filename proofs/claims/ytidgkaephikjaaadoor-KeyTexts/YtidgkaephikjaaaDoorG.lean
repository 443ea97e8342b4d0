/- Package key: Text of a number's key, over the number's digits. -/
import Derived.Test.YtidgkaephikjaaaDoorF
namespace Go.Proofs.YtidgkaephikjaaaDoor
open Go.RowKit

theorem ck_at (n : Int) : ckE 2 n = 0 := by unfold ckE; rw [if_pos (Or.inl rfl)]

set_option maxHeartbeats 2000000 in
set_option maxRecDepth 100000 in
theorem kText_at (n : Int) (s : ByteArray) (w : World) (hR : Ranks w) (hF : ∀ w', Gr w w' → Calls Tryd.prog 46 #[.int .u64 n, .int .i64 10] w' fun e w'' => e = .returned (.string s) ∧ Gr w' w'') :
    Calls Tryd.prog 29 #[(.agg #[.int .i64 (2), .int .u64 (n)])] w fun e w' => e = .returned (.tuple #[.string s, .int .i64 0]) ∧ Gr w w' := by
  have ck := kCheck_any 2 n (w.alloc (.cells #[.int .i64 2, .int .u64 n] 25)) (hR.gr ((Gr.refl w).alloc _))
  rw [ck_at] at ck
  have HI := hide (Is2.new w (.int .i64 2) (.int .u64 n))
  have HG := hide (show Gr w (w.alloc (.cells #[.int .i64 2, .int .u64 n] 25)) from (Gr.refl w).alloc _)
  have HR := hide hR
  have HF := hide hF
  clear hR hF
  go_enter Tryd.func29, Tryd.ntmps29
  go_wp2_with fail
  refine ck.mono ?_; rintro e w1 ⟨rfl, hg⟩
  replace HI := hide (HI.out.gr hg)
  replace HG := hide (HG.out.trans hg)
  obtain ⟨h0, h1, h2, h3, h4, h5⟩ := HR.out.gr HG.out
  clear ck hg
  go_wp2
  clear h0 h1 h2 h3 h4 h5
  go_loopw [13] (fun i wr => (i = .int .i64 0 ∨ i = .int .i64 1 ∨ i = .int .i64 2 ∨ i = .int .i64 3) ∧ Is2 wr w.heap.size (.int .i64 2) (.int .u64 n) ∧ Gr w wr) (fun i _ => 3 - (intOf i).toNat)
  case atStart => exact ⟨Or.inl rfl, HI.out, HG.out⟩
  case round =>
    have x0 := rank0
    have x1 := rank1
    have x2 := rank2
    obtain ⟨hi, I0, hg⟩ := hrel
    clear HI HG
    have HI := hide I0
    have HG := hide hg
    obtain ⟨a0, a1, -, -⟩ := I0.c
    have hlt := I0.lt
    clear I0 hg
    rcases hi with rfl | rfl | rfl | rfl
    · go_wp2
      go_roundw
      case rel => exact ⟨Or.inr (Or.inl rfl), HI.out.alloc _, HG.out.alloc _⟩
      case measure => simp [intOf]
    · go_wp2
      go_roundw
      case rel => exact ⟨Or.inr (Or.inr (Or.inl rfl)), HI.out.alloc _, HG.out.alloc _⟩
      case measure => simp [intOf]
    · go_wp2
      go_roundw
      case rel => exact ⟨Or.inr (Or.inr (Or.inr rfl)), HI.out.alloc _, HG.out.alloc _⟩
      case measure => simp [intOf]
    · go_wp2_with fail
      refine (HF.out _ HG.out).mono ?_; rintro e w2 ⟨rfl, hg2⟩
      go_wp2
      go_ret2
      exact ⟨rfl, HG.out.trans hg2⟩

end Go.Proofs.YtidgkaephikjaaaDoor
