/- What each statement asks for at its head: walked. -/
import Derived.Test.YtidgkaephikjaaaDoorH
namespace Go.Proofs.YtidgkaephikjaaaDoor
open Go.Shelf Go.RowKit Go.Lib Go.Sort

theorem nx10 : nxE 1 0 = (2, 0, true) := by decide
theorem dig70 : (⟨(Lib.decDigits 70).toArray⟩ : ByteArray) = ⟨#[55, 48]⟩ := by rw [show Lib.decDigits 70 = [55, 48] from by rw [Lib.decDigits, dif_neg (by decide), Lib.decDigits, dif_pos (by decide)]; rfl]
theorem kc13 : kcmp (1, 0) (3, 0) = -1 := by decide
theorem ck00 : ckE 0 0 = 20 := by decide
theorem sorted4 {S : List (Int × Int)} (h : SortedOf [(3, 0), (2, 0), (1, 0), (2, 0)] S) : S = [(1, 0), (2, 0), (3, 0)] := by
  obtain ⟨h1, h2⟩ := sortedOf_rises h
  refine rises_ext _ _ h1 ?_ fun x => ?_
  · unfold Rises; decide
  · rw [h2 x]; simp; constructor <;> (intro h; rcases h with h | h | h | h <;> simp [h])
theorem holds4 (w : World) : HoldsL (w.alloc (.cells #[.int .i64 3, .int .u64 0, .int .i64 2, .int .u64 0, .int .i64 1, .int .u64 0, .int .i64 2, .int .u64 0] 25)) w.heap.size 0 [(3, 0), (2, 0), (1, 0), (2, 0)] := by
  intro j x hx
  match j, hx with
  | 0, hx => cases hx; exact ⟨by simp, by simp⟩
  | 1, hx => cases hx; exact ⟨by simp, by simp⟩
  | 2, hx => cases hx; exact ⟨by simp, by simp⟩
  | 3, hx => cases hx; exact ⟨by simp, by simp⟩

set_option maxHeartbeats 4000000 in
set_option maxRecDepth 100000 in
theorem awake_any (w : World) (hR : Ranks w) : Calls Tryd.prog 15 #[] w fun e w' => e = .returned (.bool true) ∧ RowKit.Below w.heap.size w w' := by
  have mixed : Tryd.prog.follows .mixedOrders = true := by kernel_rfl
  have HR := hide hR
  clear hR
  go_enter Tryd.func15, Tryd.ntmps15
  go_wp2_with fail
  have I0 := hide ((Is2.new w (.int .i64 1) (.int .u64 0)).alloc (.cells #[.int .i64 3, .int .u64 0] 25))
  have I1 := Is2.new (w.alloc (.cells #[.int .i64 1, .int .u64 0] 25)) (.int .i64 3) (.int .u64 0)
  rw [World.size_alloc] at I1
  replace I1 := hide I1
  have HG := hide (show Gr w ((w.alloc (.cells #[.int .i64 1, .int .u64 0] 25)).alloc (.cells #[.int .i64 3, .int .u64 0] 25)) from ((Gr.refl w).alloc _).alloc _)
  generalize (w.alloc (.cells #[.int .i64 1, .int .u64 0] 25)).alloc (.cells #[.int .i64 3, .int .u64 0] 25) = W0 at I0 I1 HG ⊢
  refine (kNext_any 1 0 (by omega) (by omega) W0 (HR.out.gr HG.out)).mono ?_; rintro e w1 ⟨rfl, hg⟩
  rw [nx10]
  simp only [keyB]
  replace I0 := hide ((I0.out.gr hg).alloc (.cells #[.int .i64 2, .int .u64 0] 25))
  replace I1 := hide ((I1.out.gr hg).alloc (.cells #[.int .i64 2, .int .u64 0] 25))
  have I2 := hide (Is2.new w1 (.int .i64 2) (.int .u64 0))
  replace HG := hide ((HG.out.trans hg).alloc (.cells #[.int .i64 2, .int .u64 0] 25))
  clear hg
  go_wp2_with fail
  generalize hK : w1.heap.size = K at I2 ⊢
  clear hK
  generalize w1.alloc (.cells #[.int .i64 2, .int .u64 0] 25) = W1 at I0 I1 I2 HG ⊢
  refine (rAt_any 70 W1).mono ?_; rintro e w2 ⟨rfl, hg⟩
  replace I0 := hide (I0.out.gr hg)
  replace I1 := hide (I1.out.gr hg)
  replace I2 := hide (I2.out.gr hg)
  replace HG := hide (HG.out.trans hg)
  clear hg
  go_wp2_with fail
  refine (kText_at 70 _ w2 (HR.out.gr HG.out) (fun w' _ => fmt_small 70 (by omega) w')).mono ?_; rintro e w3 ⟨rfl, hg⟩
  rw [dig70]
  replace I0 := hide (I0.out.gr hg)
  replace I1 := hide (I1.out.gr hg)
  replace I2 := hide (I2.out.gr hg)
  replace HG := hide (HG.out.trans hg)
  clear hg
  obtain ⟨a0, a1, -, -⟩ := I0.out.c
  obtain ⟨b0, b1, -, -⟩ := I1.out.c
  obtain ⟨c0, c1, -, -⟩ := I2.out.c
  go_wp2_with fail
  clear a0 a1 b0 b1 c0 c1
  refine (kSorted_any w3.heap.size 0 4 4 [(3, 0), (2, 0), (1, 0), (2, 0)] _ rfl (by omega) (by omega) (sorts_small 4 (by omega) (by omega)) (holds4 w3)).mono ?_
  rintro e w5 ⟨g, cap, S, rfl, hgl, hglt, hS, hso, -, hb⟩
  obtain rfl := sorted4 hso
  clear hso
  have I0' := (I0.out.alloc (.cells #[.int .i64 3, .int .u64 0, .int .i64 2, .int .u64 0, .int .i64 1, .int .u64 0, .int .i64 2, .int .u64 0] 25)).below hb
  have I1' := (I1.out.alloc (.cells #[.int .i64 3, .int .u64 0, .int .i64 2, .int .u64 0, .int .i64 1, .int .u64 0, .int .i64 2, .int .u64 0] 25)).below hb
  have I2' := (I2.out.alloc (.cells #[.int .i64 3, .int .u64 0, .int .i64 2, .int .u64 0, .int .i64 1, .int .u64 0, .int .i64 2, .int .u64 0] 25)).below hb
  have HB := hide (show RowKit.Below w.heap.size w w5 from ((HG.out.alloc _).below).trans (hb.mono (HG.out.alloc _).le))
  have RK := hide (HR.out.below HB.out)
  have l0 := (hS 0 (1, 0) rfl).1
  have l1 := (hS 0 (1, 0) rfl).2
  simp only [Nat.zero_mul, Nat.zero_add] at l0 l1
  have a0 : ∀ n os, (grow (w5.drewN n) os).cell? ⟨w.heap.size, 0, none⟩ = some (.int .i64 1) := fun n os => cell_grown I0'.lt I0'.c.1 n os
  have a1 : ∀ n os, (grow (w5.drewN n) os).cell? ⟨w.heap.size, 1, none⟩ = some (.int .u64 0) := fun n os => cell_grown I0'.lt I0'.c.2.1 n os
  have b0 : ∀ n os, (grow (w5.drewN n) os).cell? ⟨w.heap.size + 1, 0, none⟩ = some (.int .i64 3) := fun n os => cell_grown I1'.lt I1'.c.1 n os
  have b1 : ∀ n os, (grow (w5.drewN n) os).cell? ⟨w.heap.size + 1, 1, none⟩ = some (.int .u64 0) := fun n os => cell_grown I1'.lt I1'.c.2.1 n os
  have c0 : ∀ n os, (grow (w5.drewN n) os).cell? ⟨K, 0, none⟩ = some (.int .i64 2) := fun n os => cell_grown I2'.lt I2'.c.1 n os
  have c1 : ∀ n os, (grow (w5.drewN n) os).cell? ⟨K, 1, none⟩ = some (.int .u64 0) := fun n os => cell_grown I2'.lt I2'.c.2.1 n os
  have d0 : ∀ n os, (grow (w5.drewN n) os).cell? ⟨g, 0, none⟩ = some (.int .i64 1) := fun n os => cell_grown hglt l0 n os
  have d1 : ∀ n os, (grow (w5.drewN n) os).cell? ⟨g, 1, none⟩ = some (.int .u64 0) := fun n os => cell_grown hglt l1 n os
  have k1 : ∀ w, Calls Tryd.prog 11 #[(.agg #[.int .i64 (1), .int .u64 (0)]), (.agg #[.int .i64 (3), .int .u64 (0)])] w fun e w' => e = .returned (.int .i64 (-1)) ∧ Gr w w' := fun w => by
    have := kCompare_any 1 0 3 0 w; rwa [kc13] at this
  have k2 : ∀ n os, Calls Tryd.prog 9 #[(.agg #[.int .i64 (0), .int .u64 (0)])] (grow (w5.drewN n) os) fun e w' => e = .returned (.int .i64 20) ∧ Gr (grow (w5.drewN n) os) w' := fun n os => by
    have := kCheck_any 0 0 (grow (w5.drewN n) os) (RK.out.gr ⟨n, os, rfl⟩); rwa [ck00] at this
  have K1 := hide k1
  have K2 := hide k2
  clear I0' I1' I2' l0 l1 hS hb k1 k2 I0 I1 I2 HG HR
  go_wp2
  go_quiet_grown (first
    | (go_at_call 40; refine Calls.grown_of (rAt_any 0 _))
    | (go_at_call 11; refine Calls.grown_of (K1.out _))
    | (go_at_call 9; refine Calls.grown_of (K2.out _ _)))
  go_wp2
  go_ret
  exact ⟨rfl, HB.out.trans ((Gr.below ⟨_, _, rfl⟩).mono HB.out.size)⟩

end Go.Proofs.YtidgkaephikjaaaDoor
