/- The document's Read, of any nine bytes. -/
import Derived.Test.YtidgkaephikjaaaDoorTE
namespace Go.Proofs.YtidgkaephikjaaaDoor
open Go.RowKit

set_option maxHeartbeats 4000000 in
set_option maxRecDepth 100000 in
theorem rRead_nine (g o cap : Nat) (x : Nat → Int) (w : World) (hC : Nine w g o x) :
    Calls Tryd.prog 36 #[.slice (some ⟨g, o, none⟩) 9 cap] w fun e w' => e = .returned (.tuple #[(.agg #[.int .i64 ((rdR (x 0) (nk x 8)).1), .int .u64 ((rdR (x 0) (nk x 8)).2.1)]), .int .i64 (rdR (x 0) (nk x 8)).2.2]) ∧ RowKit.Below w.heap.size w w' := by
  obtain ⟨c0, l0, u0⟩ := hC 0 (by omega)
  have hgl := lt_of_cell c0
  have hbd := nk_bd x (fun j hj => (hC j hj).2)
  simp only [Nat.add_zero] at hgl c0
  have HC := hide hC
  clear hC
  go_enter Tryd.func36, Tryd.ntmps36
  go_wp2
  have HI0 := hide ((Is2.new w (.int .i64 0) (.int .u64 0)).alloc (.cells #[.int .i64 (x 0), .int .u64 0] 25))
  have I1 := Is2.new (w.alloc (.cells #[.int .i64 0, .int .u64 0] 25)) (.int .i64 (x 0)) (.int .u64 0)
  rw [World.size_alloc] at I1
  have HI1 := hide I1
  have HG := hide (show Gr w ((w.alloc (.cells #[.int .i64 0, .int .u64 0] 25)).alloc (.cells #[.int .i64 (x 0), .int .u64 0] 25)) from ((Gr.refl w).alloc _).alloc _)
  clear I1 c0
  go_loopw [5] (fun i wr => ∃ k : Nat, k ≤ 8 ∧ i = .int .i64 ((k : Int) + 1) ∧ Is2 wr w.heap.size (.int .i64 0) (.int .u64 0) ∧ Is2 wr (w.heap.size + 1) (.int .i64 (x 0)) (.int .u64 (nk x k)) ∧ Gr w wr) (fun i _ => 9 - (intOf i).toNat)
  case atStart => exact ⟨0, by omega, rfl, HI0.out, HI1.out, HG.out⟩
  case round =>
    obtain ⟨k, hk, rfl, I0, I1, hg⟩ := hrel
    clear HI0 HI1 HG
    have HI0 := hide I0
    have HI1 := hide I1
    have HG := hide hg
    obtain ⟨a0, a1, f0, f1⟩ := I1.c
    have hl1 := I1.lt
    have HN := hide (HC.out.below hg.below)
    clear I0 I1 hg
    obtain ⟨b0, b1⟩ := hbd k hk
    have HS := hide (show nk x (k + 1) = nk x k * 256 + x (k + 1) from rfl)
    have hk' : k = 0 ∨ k = 1 ∨ k = 2 ∨ k = 3 ∨ k = 4 ∨ k = 5 ∨ k = 6 ∨ k = 7 ∨ k = 8 := by omega
    rcases hk' with rfl | rfl | rfl | rfl | rfl | rfl | rfl | rfl | rfl
    · obtain ⟨d, y0, y1⟩ := HN.out 1 (by omega)
      simp only [Int.reducePow] at b1
      generalize x 1 = X at *
      generalize nk x 0 = N at *
      have hor := or8 (N * 256) X (by omega) (by omega) (by omega) y0 y1
      go_wp2
      go_region
      all_goals go_wp2
      go_roundw
      case rel => exact ⟨1, by omega, by go_num, HI0.out.setOther (by simp) _, by rw [HS.out]; exact HI1.out.set1 _, (HG.out.set _ _ _ (by omega)).drew⟩
      case measure => simp [intOf]
    · obtain ⟨d, y0, y1⟩ := HN.out 2 (by omega)
      simp only [Int.reducePow] at b1
      generalize x 2 = X at *
      generalize nk x 1 = N at *
      have hor := or8 (N * 256) X (by omega) (by omega) (by omega) y0 y1
      go_wp2
      go_region
      all_goals go_wp2
      go_roundw
      case rel => exact ⟨2, by omega, by go_num, HI0.out.setOther (by simp) _, by rw [HS.out]; exact HI1.out.set1 _, (HG.out.set _ _ _ (by omega)).drew⟩
      case measure => simp [intOf]
    · obtain ⟨d, y0, y1⟩ := HN.out 3 (by omega)
      simp only [Int.reducePow] at b1
      generalize x 3 = X at *
      generalize nk x 2 = N at *
      have hor := or8 (N * 256) X (by omega) (by omega) (by omega) y0 y1
      go_wp2
      go_region
      all_goals go_wp2
      go_roundw
      case rel => exact ⟨3, by omega, by go_num, HI0.out.setOther (by simp) _, by rw [HS.out]; exact HI1.out.set1 _, (HG.out.set _ _ _ (by omega)).drew⟩
      case measure => simp [intOf]
    · obtain ⟨d, y0, y1⟩ := HN.out 4 (by omega)
      simp only [Int.reducePow] at b1
      generalize x 4 = X at *
      generalize nk x 3 = N at *
      have hor := or8 (N * 256) X (by omega) (by omega) (by omega) y0 y1
      go_wp2
      go_region
      all_goals go_wp2
      go_roundw
      case rel => exact ⟨4, by omega, by go_num, HI0.out.setOther (by simp) _, by rw [HS.out]; exact HI1.out.set1 _, (HG.out.set _ _ _ (by omega)).drew⟩
      case measure => simp [intOf]
    · obtain ⟨d, y0, y1⟩ := HN.out 5 (by omega)
      simp only [Int.reducePow] at b1
      generalize x 5 = X at *
      generalize nk x 4 = N at *
      have hor := or8 (N * 256) X (by omega) (by omega) (by omega) y0 y1
      go_wp2
      go_region
      all_goals go_wp2
      go_roundw
      case rel => exact ⟨5, by omega, by go_num, HI0.out.setOther (by simp) _, by rw [HS.out]; exact HI1.out.set1 _, (HG.out.set _ _ _ (by omega)).drew⟩
      case measure => simp [intOf]
    · obtain ⟨d, y0, y1⟩ := HN.out 6 (by omega)
      simp only [Int.reducePow] at b1
      generalize x 6 = X at *
      generalize nk x 5 = N at *
      have hor := or8 (N * 256) X (by omega) (by omega) (by omega) y0 y1
      go_wp2
      go_region
      all_goals go_wp2
      go_roundw
      case rel => exact ⟨6, by omega, by go_num, HI0.out.setOther (by simp) _, by rw [HS.out]; exact HI1.out.set1 _, (HG.out.set _ _ _ (by omega)).drew⟩
      case measure => simp [intOf]
    · obtain ⟨d, y0, y1⟩ := HN.out 7 (by omega)
      simp only [Int.reducePow] at b1
      generalize x 7 = X at *
      generalize nk x 6 = N at *
      have hor := or8 (N * 256) X (by omega) (by omega) (by omega) y0 y1
      go_wp2
      go_region
      all_goals go_wp2
      go_roundw
      case rel => exact ⟨7, by omega, by go_num, HI0.out.setOther (by simp) _, by rw [HS.out]; exact HI1.out.set1 _, (HG.out.set _ _ _ (by omega)).drew⟩
      case measure => simp [intOf]
    · obtain ⟨d, y0, y1⟩ := HN.out 8 (by omega)
      simp only [Int.reducePow] at b1
      generalize x 8 = X at *
      generalize nk x 7 = N at *
      have hor := or8 (N * 256) X (by omega) (by omega) (by omega) y0 y1
      go_wp2
      go_region
      all_goals go_wp2
      go_roundw
      case rel => exact ⟨8, by omega, by go_num, HI0.out.setOther (by simp) _, by rw [HS.out]; exact HI1.out.set1 _, (HG.out.set _ _ _ (by omega)).drew⟩
      case measure => simp [intOf]
    · have ck := rCheck_any (x 0) (nk x 8) wr
      rcases ck_two (x 0) (nk x 8) with hc | hc
      · rw [hc] at ck
        go_wp2_with fail
        refine ck.mono ?_; rintro e w2 ⟨rfl, hg2⟩
        replace HI0 := hide (HI0.out.gr hg2)
        replace HI1 := hide (HI1.out.gr hg2)
        replace HG := hide (HG.out.trans hg2)
        obtain ⟨b0, b1, g0, g1⟩ := HI1.out.c
        obtain ⟨d0, d1, e0, e1⟩ := HI0.out.c
        have hl2 := HI1.out.lt
        clear ck hg2 a0 a1 f0 f1
        go_wp2
        exact bodyPost_ret (res_key2 rfl _ _ w.heap.size _ _ _ rfl rfl (HI0.out.set _ _)) rfl ⟨by rw [rdR_ok hc]; rfl, ((HG.out.set _ _ _ (by omega)).set _ _ _ (by omega)).below⟩
      · rw [hc] at ck
        go_wp2_with fail
        refine ck.mono ?_; rintro e w2 ⟨rfl, hg2⟩
        replace HI0 := hide (HI0.out.gr hg2)
        replace HG := hide (HG.out.trans hg2)
        obtain ⟨d0, d1, e0, e1⟩ := HI0.out.c
        have hl2 := HI0.out.lt
        clear ck hg2 a0 a1 f0 f1
        go_wp2
        exact bodyPost_ret (res_key2 rfl _ _ w.heap.size _ _ _ rfl rfl (HI0.out.set _ _)) rfl ⟨by rw [rdR_bad hc]; rfl, ((HG.out.set _ _ _ (by omega)).set _ _ _ (by omega)).below⟩

end Go.Proofs.YtidgkaephikjaaaDoor
