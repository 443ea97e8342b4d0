/- KeyBetween, walked. -/
import Derived.Test.YtagokcdngpidhaaDoorN
namespace Go.Proofs.YtagokcdngpidhaaDoor
open Go.RowKit

theorem ck_ok {s m : Int} (h : ckE s m = 0) : s = 2 ∨ s = 1 ∧ m = 0 ∨ s = 3 ∧ m = 0 := by
  rcases ck_cases s m with ⟨h', _⟩ | ⟨_, h'⟩
  · rw [h] at h'; cases h'
  · exact h'

set_option maxHeartbeats 8000000 in
set_option maxRecDepth 100000 in
theorem between_bad (r n s m : Int) (h0 : 0 ≤ n) (h1 : n < 18446744073709551616) (w : World) (hR : Ranks w) (hc : ckE r n = 20) :
    Calls Tryd.prog 8 #[(.agg #[.int .i64 (r), .int .u64 (n)]), (.agg #[.int .i64 (s), .int .u64 (m)])] w fun e w' => e = .returned (.bool true) ∧ Below w.heap.size w w' := by
  have HR := hide hR
  clear hR
  have n1 := fun w h => kNext_any r n h0 h1 w h
  rw [show nxE r n = (0, 0, false) from by unfold nxE; rw [if_pos (Or.inl hc)]] at n1
  simp only [keyB] at n1
  replace n1 := hide n1
  have ck := fun w h => kCheck_any r n w h
  rw [hc] at ck
  replace ck := hide ck
  clear hc h0 h1
  have I0 := hide ((Is2.new w (.int .i64 r) (.int .u64 n)).alloc (.cells #[.int .i64 s, .int .u64 m] 25))
  have I1 := Is2.new (w.alloc (.cells #[.int .i64 r, .int .u64 n] 25)) (.int .i64 s) (.int .u64 m)
  simp only [World.size_alloc] at I1
  replace I1 := hide I1
  have HG := hide (show Gr w ((w.alloc (.cells #[.int .i64 r, .int .u64 n] 25)).alloc (.cells #[.int .i64 s, .int .u64 m] 25)) from ((Gr.refl w).alloc _).alloc _)
  go_enter Tryd.func8, Tryd.ntmps8
  go_wp2_with fail
  generalize (w.alloc (.cells #[.int .i64 r, .int .u64 n] 25)).alloc (.cells #[.int .i64 s, .int .u64 m] 25) = W0 at I0 I1 HG ⊢
  refine (awake_any W0 (HR.out.gr HG.out)).mono ?_; rintro e W1 ⟨rfl, hb⟩
  replace I0 := hide (I0.out.below hb)
  replace I1 := hide (I1.out.below hb)
  have HB := hide (show Below w.heap.size w W1 from HG.out.below.trans (hb.mono HG.out.le))
  clear hb HG
  obtain ⟨a0, a1, -, -⟩ := I0.out.c
  go_wp2_with fail
  clear a0 a1
  refine (n1.out W1 (HR.out.below HB.out)).mono ?_; rintro e w2 ⟨rfl, hg⟩
  replace I0 := hide ((I0.out.gr hg).alloc (.cells #[.int .i64 0, .int .u64 0] 25))
  replace I1 := hide ((I1.out.gr hg).alloc (.cells #[.int .i64 0, .int .u64 0] 25))
  have I2 := hide (Is2.new w2 (.int .i64 0) (.int .u64 0))
  replace HB := hide (HB.out.trans ((hg.alloc (.cells #[.int .i64 0, .int .u64 0] 25)).below.mono HB.out.size))
  clear hg
  obtain ⟨a0, a1, -, -⟩ := I0.out.c
  have hz := I0.out.lt
  go_wp2_with fail
  clear a0 a1 hz
  generalize hK : w2.heap.size = K at I2 ⊢
  clear hK
  generalize w2.alloc (.cells #[.int .i64 0, .int .u64 0] 25) = W3 at I0 I1 I2 HB ⊢
  refine (ck.out W3 (HR.out.below HB.out)).mono ?_; rintro e W4 ⟨rfl, hg⟩
  replace I0 := hide (I0.out.gr hg)
  replace HB := hide (HB.out.trans (hg.below.mono HB.out.size))
  clear hg
  obtain ⟨a0, a1, -, -⟩ := I0.out.c
  go_wp2
  go_ret
  exact ⟨rfl, HB.out⟩

set_option maxHeartbeats 8000000 in
set_option maxRecDepth 100000 in
theorem between_high (r n s m : Int) (h0 : 0 ≤ n) (h1 : n < 18446744073709551616) (w : World) (hR : Ranks w) (hc : ckE r n = 0) (hr : r = 3) :
    Calls Tryd.prog 8 #[(.agg #[.int .i64 (r), .int .u64 (n)]), (.agg #[.int .i64 (s), .int .u64 (m)])] w fun e w' => e = .returned (.bool true) ∧ Below w.heap.size w w' := by
  have HR := hide hR
  clear hR
  subst hr
  have n1 := fun w h => kNext_any 3 n h0 h1 w h
  rw [show nxE 3 n = (0, 0, false) from by unfold nxE; rw [if_pos (Or.inr rfl)]] at n1
  simp only [keyB] at n1
  replace n1 := hide n1
  have ck := fun w h => kCheck_any 3 n w h
  rw [hc] at ck
  replace ck := hide ck
  clear hc h0 h1
  have I0 := hide ((Is2.new w (.int .i64 3) (.int .u64 n)).alloc (.cells #[.int .i64 s, .int .u64 m] 25))
  have I1 := Is2.new (w.alloc (.cells #[.int .i64 3, .int .u64 n] 25)) (.int .i64 s) (.int .u64 m)
  simp only [World.size_alloc] at I1
  replace I1 := hide I1
  have HG := hide (show Gr w ((w.alloc (.cells #[.int .i64 3, .int .u64 n] 25)).alloc (.cells #[.int .i64 s, .int .u64 m] 25)) from ((Gr.refl w).alloc _).alloc _)
  go_enter Tryd.func8, Tryd.ntmps8
  go_wp2_with fail
  generalize (w.alloc (.cells #[.int .i64 3, .int .u64 n] 25)).alloc (.cells #[.int .i64 s, .int .u64 m] 25) = W0 at I0 I1 HG ⊢
  refine (awake_any W0 (HR.out.gr HG.out)).mono ?_; rintro e W1 ⟨rfl, hb⟩
  replace I0 := hide (I0.out.below hb)
  replace I1 := hide (I1.out.below hb)
  have HB := hide (show Below w.heap.size w W1 from HG.out.below.trans (hb.mono HG.out.le))
  clear hb HG
  obtain ⟨a0, a1, -, -⟩ := I0.out.c
  go_wp2_with fail
  clear a0 a1
  refine (n1.out W1 (HR.out.below HB.out)).mono ?_; rintro e w2 ⟨rfl, hg⟩
  replace I0 := hide ((I0.out.gr hg).alloc (.cells #[.int .i64 0, .int .u64 0] 25))
  replace I1 := hide ((I1.out.gr hg).alloc (.cells #[.int .i64 0, .int .u64 0] 25))
  have I2 := hide (Is2.new w2 (.int .i64 0) (.int .u64 0))
  replace HB := hide (HB.out.trans ((hg.alloc (.cells #[.int .i64 0, .int .u64 0] 25)).below.mono HB.out.size))
  clear hg
  obtain ⟨a0, a1, -, -⟩ := I0.out.c
  have hz := I0.out.lt
  go_wp2_with fail
  clear a0 a1 hz
  generalize hK : w2.heap.size = K at I2 ⊢
  clear hK
  generalize w2.alloc (.cells #[.int .i64 0, .int .u64 0] 25) = W3 at I0 I1 I2 HB ⊢
  refine (ck.out W3 (HR.out.below HB.out)).mono ?_; rintro e W4 ⟨rfl, hg⟩
  replace I0 := hide (I0.out.gr hg)
  replace HB := hide (HB.out.trans (hg.below.mono HB.out.size))
  clear hg
  obtain ⟨a0, a1, -, -⟩ := I0.out.c
  go_wp2
  go_ret
  exact ⟨rfl, HB.out⟩

set_option maxHeartbeats 8000000 in
set_option maxRecDepth 100000 in
theorem between_obad (r n s m p q : Int) (h0 : 0 ≤ n) (h1 : n < 18446744073709551616) (h2 : 0 ≤ q) (h3 : q < 18446744073709551616) (w : World) (hR : Ranks w) (hN : nxE r n = (p, q, true)) (hP : pvE p q = (r, n, true)) (hc : ckE p q = 0) (hl : klt (r, n) (p, q) = true) (ho : ckE s m = 20) :
    Calls Tryd.prog 8 #[(.agg #[.int .i64 (r), .int .u64 (n)]), (.agg #[.int .i64 (s), .int .u64 (m)])] w fun e w' => e = .returned (.bool true) ∧ Below w.heap.size w w' := by
  have HR := hide hR
  clear hR
  have n1 := fun w h => kNext_any r n h0 h1 w h
  have n2 := fun w h => kPrev_any p q h2 h3 w h
  have k1 := fun w => kLess_any r n p q w
  have k2 := fun w h => kCheck_any p q w h
  have k3 := fun w h => kCheck_any s m w h
  have k4 := fun w => kLess_any r n s m w
  have k5 := fun w => kLess_any s m p q w
  rw [hN] at n1
  rw [hP] at n2
  rw [hl] at k1
  rw [hc] at k2
  rw [ho] at k3
  simp only [keyB] at n1 n2
  replace n1 := hide n1
  replace n2 := hide n2
  replace k1 := hide k1
  replace k2 := hide k2
  replace k3 := hide k3
  replace k4 := hide k4
  replace k5 := hide k5
  clear hN hP hc hl ho h0 h1 h2 h3
  have I0 := hide ((Is2.new w (.int .i64 r) (.int .u64 n)).alloc (.cells #[.int .i64 s, .int .u64 m] 25))
  have I1 := Is2.new (w.alloc (.cells #[.int .i64 r, .int .u64 n] 25)) (.int .i64 s) (.int .u64 m)
  simp only [World.size_alloc] at I1
  replace I1 := hide I1
  have HG := hide (show Gr w ((w.alloc (.cells #[.int .i64 r, .int .u64 n] 25)).alloc (.cells #[.int .i64 s, .int .u64 m] 25)) from ((Gr.refl w).alloc _).alloc _)
  go_enter Tryd.func8, Tryd.ntmps8
  go_wp2_with fail
  generalize (w.alloc (.cells #[.int .i64 r, .int .u64 n] 25)).alloc (.cells #[.int .i64 s, .int .u64 m] 25) = W0 at I0 I1 HG ⊢
  refine (awake_any W0 (HR.out.gr HG.out)).mono ?_; rintro e W1 ⟨rfl, hb⟩
  replace I0 := hide (I0.out.below hb)
  replace I1 := hide (I1.out.below hb)
  have HB := hide (show Below w.heap.size w W1 from HG.out.below.trans (hb.mono HG.out.le))
  clear hb HG
  obtain ⟨a0, a1, -, -⟩ := I0.out.c
  go_wp2_with fail
  clear a0 a1
  refine (n1.out W1 (HR.out.below HB.out)).mono ?_; rintro e w2 ⟨rfl, hg⟩
  replace I0 := hide ((I0.out.gr hg).alloc (.cells #[.int .i64 p, .int .u64 q] 25))
  replace I1 := hide ((I1.out.gr hg).alloc (.cells #[.int .i64 p, .int .u64 q] 25))
  have I2 := hide (Is2.new w2 (.int .i64 p) (.int .u64 q))
  replace HB := hide (HB.out.trans ((hg.alloc (.cells #[.int .i64 p, .int .u64 q] 25)).below.mono HB.out.size))
  clear hg
  obtain ⟨e0, e1, -, -⟩ := I2.out.c
  go_wp2_with fail
  clear e0 e1
  generalize hK : w2.heap.size = K at I2 ⊢
  clear hK
  generalize w2.alloc (.cells #[.int .i64 p, .int .u64 q] 25) = W3 at I0 I1 I2 HB ⊢
  refine (n2.out W3 (HR.out.below HB.out)).mono ?_; rintro e w4 ⟨rfl, hg⟩
  replace I0 := hide ((I0.out.gr hg).alloc (.cells #[.int .i64 r, .int .u64 n] 25))
  replace I1 := hide ((I1.out.gr hg).alloc (.cells #[.int .i64 r, .int .u64 n] 25))
  replace I2 := hide ((I2.out.gr hg).alloc (.cells #[.int .i64 r, .int .u64 n] 25))
  have I3 := hide (Is2.new w4 (.int .i64 r) (.int .u64 n))
  replace HB := hide (HB.out.trans ((hg.alloc (.cells #[.int .i64 r, .int .u64 n] 25)).below.mono HB.out.size))
  clear hg
  obtain ⟨a0, a1, -, -⟩ := I0.out.c
  obtain ⟨b0, b1, -, -⟩ := I1.out.c
  obtain ⟨c0, c1, -, -⟩ := I2.out.c
  obtain ⟨d0, d1, -, -⟩ := I3.out.c
  have hz := I0.out.lt
  go_wp2_with fail
  clear a0 a1 b0 b1 c0 c1 d0 d1 hz
  generalize hK : w4.heap.size = K2 at I3 ⊢
  clear hK
  generalize w4.alloc (.cells #[.int .i64 r, .int .u64 n] 25) = W5 at I0 I1 I2 I3 HB ⊢
  refine (k1.out W5).mono ?_; rintro e W6 ⟨rfl, hg⟩
  replace I0 := hide (I0.out.gr hg)
  replace I1 := hide (I1.out.gr hg)
  replace I2 := hide (I2.out.gr hg)
  replace HB := hide (HB.out.trans (hg.below.mono HB.out.size))
  clear hg
  obtain ⟨a0, a1, -, -⟩ := I0.out.c
  obtain ⟨b0, b1, -, -⟩ := I1.out.c
  obtain ⟨c0, c1, -, -⟩ := I2.out.c
  go_wp2_with fail
  clear a0 a1 b0 b1 c0 c1
  refine (k2.out W6 (HR.out.below HB.out)).mono ?_; rintro e W7 ⟨rfl, hg⟩
  replace I0 := hide (I0.out.gr hg)
  replace I1 := hide (I1.out.gr hg)
  replace I2 := hide (I2.out.gr hg)
  replace HB := hide (HB.out.trans (hg.below.mono HB.out.size))
  clear hg
  obtain ⟨a0, a1, -, -⟩ := I0.out.c
  obtain ⟨b0, b1, -, -⟩ := I1.out.c
  obtain ⟨c0, c1, -, -⟩ := I2.out.c
  go_wp2_with fail
  clear a0 a1 b0 b1 c0 c1
  refine (k3.out W7 (HR.out.below HB.out)).mono ?_; rintro e W8 ⟨rfl, hg⟩
  replace I0 := hide (I0.out.gr hg)
  replace I1 := hide (I1.out.gr hg)
  replace I2 := hide (I2.out.gr hg)
  replace HB := hide (HB.out.trans (hg.below.mono HB.out.size))
  clear hg
  obtain ⟨a0, a1, -, -⟩ := I0.out.c
  obtain ⟨b0, b1, -, -⟩ := I1.out.c
  obtain ⟨c0, c1, -, -⟩ := I2.out.c
  go_wp2
  go_ret
  exact ⟨rfl, HB.out⟩

set_option maxHeartbeats 8000000 in
set_option maxRecDepth 100000 in
theorem between_below (r n s m p q : Int) (h0 : 0 ≤ n) (h1 : n < 18446744073709551616) (h2 : 0 ≤ q) (h3 : q < 18446744073709551616) (w : World) (hR : Ranks w) (hN : nxE r n = (p, q, true)) (hP : pvE p q = (r, n, true)) (hc : ckE p q = 0) (hl : klt (r, n) (p, q) = true) (ho : ckE s m = 0) (hk : klt (r, n) (s, m) = false) :
    Calls Tryd.prog 8 #[(.agg #[.int .i64 (r), .int .u64 (n)]), (.agg #[.int .i64 (s), .int .u64 (m)])] w fun e w' => e = .returned (.bool true) ∧ Below w.heap.size w w' := by
  have HR := hide hR
  clear hR
  have n1 := fun w h => kNext_any r n h0 h1 w h
  have n2 := fun w h => kPrev_any p q h2 h3 w h
  have k1 := fun w => kLess_any r n p q w
  have k2 := fun w h => kCheck_any p q w h
  have k3 := fun w h => kCheck_any s m w h
  have k4 := fun w => kLess_any r n s m w
  have k5 := fun w => kLess_any s m p q w
  rw [hN] at n1
  rw [hP] at n2
  rw [hl] at k1
  rw [hc] at k2
  rw [ho] at k3
  rw [hk] at k4
  simp only [keyB] at n1 n2
  replace n1 := hide n1
  replace n2 := hide n2
  replace k1 := hide k1
  replace k2 := hide k2
  replace k3 := hide k3
  replace k4 := hide k4
  replace k5 := hide k5
  clear hN hP hc hl ho h0 h1 h2 h3 hk
  have I0 := hide ((Is2.new w (.int .i64 r) (.int .u64 n)).alloc (.cells #[.int .i64 s, .int .u64 m] 25))
  have I1 := Is2.new (w.alloc (.cells #[.int .i64 r, .int .u64 n] 25)) (.int .i64 s) (.int .u64 m)
  simp only [World.size_alloc] at I1
  replace I1 := hide I1
  have HG := hide (show Gr w ((w.alloc (.cells #[.int .i64 r, .int .u64 n] 25)).alloc (.cells #[.int .i64 s, .int .u64 m] 25)) from ((Gr.refl w).alloc _).alloc _)
  go_enter Tryd.func8, Tryd.ntmps8
  go_wp2_with fail
  generalize (w.alloc (.cells #[.int .i64 r, .int .u64 n] 25)).alloc (.cells #[.int .i64 s, .int .u64 m] 25) = W0 at I0 I1 HG ⊢
  refine (awake_any W0 (HR.out.gr HG.out)).mono ?_; rintro e W1 ⟨rfl, hb⟩
  replace I0 := hide (I0.out.below hb)
  replace I1 := hide (I1.out.below hb)
  have HB := hide (show Below w.heap.size w W1 from HG.out.below.trans (hb.mono HG.out.le))
  clear hb HG
  obtain ⟨a0, a1, -, -⟩ := I0.out.c
  go_wp2_with fail
  clear a0 a1
  refine (n1.out W1 (HR.out.below HB.out)).mono ?_; rintro e w2 ⟨rfl, hg⟩
  replace I0 := hide ((I0.out.gr hg).alloc (.cells #[.int .i64 p, .int .u64 q] 25))
  replace I1 := hide ((I1.out.gr hg).alloc (.cells #[.int .i64 p, .int .u64 q] 25))
  have I2 := hide (Is2.new w2 (.int .i64 p) (.int .u64 q))
  replace HB := hide (HB.out.trans ((hg.alloc (.cells #[.int .i64 p, .int .u64 q] 25)).below.mono HB.out.size))
  clear hg
  obtain ⟨e0, e1, -, -⟩ := I2.out.c
  go_wp2_with fail
  clear e0 e1
  generalize hK : w2.heap.size = K at I2 ⊢
  clear hK
  generalize w2.alloc (.cells #[.int .i64 p, .int .u64 q] 25) = W3 at I0 I1 I2 HB ⊢
  refine (n2.out W3 (HR.out.below HB.out)).mono ?_; rintro e w4 ⟨rfl, hg⟩
  replace I0 := hide ((I0.out.gr hg).alloc (.cells #[.int .i64 r, .int .u64 n] 25))
  replace I1 := hide ((I1.out.gr hg).alloc (.cells #[.int .i64 r, .int .u64 n] 25))
  replace I2 := hide ((I2.out.gr hg).alloc (.cells #[.int .i64 r, .int .u64 n] 25))
  have I3 := hide (Is2.new w4 (.int .i64 r) (.int .u64 n))
  replace HB := hide (HB.out.trans ((hg.alloc (.cells #[.int .i64 r, .int .u64 n] 25)).below.mono HB.out.size))
  clear hg
  obtain ⟨a0, a1, -, -⟩ := I0.out.c
  obtain ⟨b0, b1, -, -⟩ := I1.out.c
  obtain ⟨c0, c1, -, -⟩ := I2.out.c
  obtain ⟨d0, d1, -, -⟩ := I3.out.c
  have hz := I0.out.lt
  go_wp2_with fail
  clear a0 a1 b0 b1 c0 c1 d0 d1 hz
  generalize hK : w4.heap.size = K2 at I3 ⊢
  clear hK
  generalize w4.alloc (.cells #[.int .i64 r, .int .u64 n] 25) = W5 at I0 I1 I2 I3 HB ⊢
  refine (k1.out W5).mono ?_; rintro e W6 ⟨rfl, hg⟩
  replace I0 := hide (I0.out.gr hg)
  replace I1 := hide (I1.out.gr hg)
  replace I2 := hide (I2.out.gr hg)
  replace HB := hide (HB.out.trans (hg.below.mono HB.out.size))
  clear hg
  obtain ⟨a0, a1, -, -⟩ := I0.out.c
  obtain ⟨b0, b1, -, -⟩ := I1.out.c
  obtain ⟨c0, c1, -, -⟩ := I2.out.c
  go_wp2_with fail
  clear a0 a1 b0 b1 c0 c1
  refine (k2.out W6 (HR.out.below HB.out)).mono ?_; rintro e W7 ⟨rfl, hg⟩
  replace I0 := hide (I0.out.gr hg)
  replace I1 := hide (I1.out.gr hg)
  replace I2 := hide (I2.out.gr hg)
  replace HB := hide (HB.out.trans (hg.below.mono HB.out.size))
  clear hg
  obtain ⟨a0, a1, -, -⟩ := I0.out.c
  obtain ⟨b0, b1, -, -⟩ := I1.out.c
  obtain ⟨c0, c1, -, -⟩ := I2.out.c
  go_wp2_with fail
  clear a0 a1 b0 b1 c0 c1
  refine (k3.out W7 (HR.out.below HB.out)).mono ?_; rintro e W8 ⟨rfl, hg⟩
  replace I0 := hide (I0.out.gr hg)
  replace I1 := hide (I1.out.gr hg)
  replace I2 := hide (I2.out.gr hg)
  replace HB := hide (HB.out.trans (hg.below.mono HB.out.size))
  clear hg
  obtain ⟨a0, a1, -, -⟩ := I0.out.c
  obtain ⟨b0, b1, -, -⟩ := I1.out.c
  obtain ⟨c0, c1, -, -⟩ := I2.out.c
  go_wp2_with fail
  clear a0 a1 b0 b1 c0 c1
  refine (k4.out W8).mono ?_; rintro e W9 ⟨rfl, hg⟩
  replace I0 := hide (I0.out.gr hg)
  replace I1 := hide (I1.out.gr hg)
  replace I2 := hide (I2.out.gr hg)
  replace HB := hide (HB.out.trans (hg.below.mono HB.out.size))
  clear hg
  obtain ⟨a0, a1, -, -⟩ := I0.out.c
  obtain ⟨b0, b1, -, -⟩ := I1.out.c
  obtain ⟨c0, c1, -, -⟩ := I2.out.c
  go_wp2
  go_ret
  exact ⟨rfl, HB.out⟩

set_option maxHeartbeats 8000000 in
set_option maxRecDepth 100000 in
theorem between_above (r n s m p q : Int) (h0 : 0 ≤ n) (h1 : n < 18446744073709551616) (h2 : 0 ≤ q) (h3 : q < 18446744073709551616) (w : World) (hR : Ranks w) (hN : nxE r n = (p, q, true)) (hP : pvE p q = (r, n, true)) (hc : ckE p q = 0) (hl : klt (r, n) (p, q) = true) (ho : ckE s m = 0) (hk : klt (r, n) (s, m) = true) (hk2 : klt (s, m) (p, q) = false) :
    Calls Tryd.prog 8 #[(.agg #[.int .i64 (r), .int .u64 (n)]), (.agg #[.int .i64 (s), .int .u64 (m)])] w fun e w' => e = .returned (.bool true) ∧ Below w.heap.size w w' := by
  have HR := hide hR
  clear hR
  have n1 := fun w h => kNext_any r n h0 h1 w h
  have n2 := fun w h => kPrev_any p q h2 h3 w h
  have k1 := fun w => kLess_any r n p q w
  have k2 := fun w h => kCheck_any p q w h
  have k3 := fun w h => kCheck_any s m w h
  have k4 := fun w => kLess_any r n s m w
  have k5 := fun w => kLess_any s m p q w
  rw [hN] at n1
  rw [hP] at n2
  rw [hl] at k1
  rw [hc] at k2
  rw [ho] at k3
  rw [hk] at k4
  rw [hk2] at k5
  simp only [keyB] at n1 n2
  replace n1 := hide n1
  replace n2 := hide n2
  replace k1 := hide k1
  replace k2 := hide k2
  replace k3 := hide k3
  replace k4 := hide k4
  replace k5 := hide k5
  clear hN hP hc hl ho h0 h1 h2 h3 hk hk2
  have I0 := hide ((Is2.new w (.int .i64 r) (.int .u64 n)).alloc (.cells #[.int .i64 s, .int .u64 m] 25))
  have I1 := Is2.new (w.alloc (.cells #[.int .i64 r, .int .u64 n] 25)) (.int .i64 s) (.int .u64 m)
  simp only [World.size_alloc] at I1
  replace I1 := hide I1
  have HG := hide (show Gr w ((w.alloc (.cells #[.int .i64 r, .int .u64 n] 25)).alloc (.cells #[.int .i64 s, .int .u64 m] 25)) from ((Gr.refl w).alloc _).alloc _)
  go_enter Tryd.func8, Tryd.ntmps8
  go_wp2_with fail
  generalize (w.alloc (.cells #[.int .i64 r, .int .u64 n] 25)).alloc (.cells #[.int .i64 s, .int .u64 m] 25) = W0 at I0 I1 HG ⊢
  refine (awake_any W0 (HR.out.gr HG.out)).mono ?_; rintro e W1 ⟨rfl, hb⟩
  replace I0 := hide (I0.out.below hb)
  replace I1 := hide (I1.out.below hb)
  have HB := hide (show Below w.heap.size w W1 from HG.out.below.trans (hb.mono HG.out.le))
  clear hb HG
  obtain ⟨a0, a1, -, -⟩ := I0.out.c
  go_wp2_with fail
  clear a0 a1
  refine (n1.out W1 (HR.out.below HB.out)).mono ?_; rintro e w2 ⟨rfl, hg⟩
  replace I0 := hide ((I0.out.gr hg).alloc (.cells #[.int .i64 p, .int .u64 q] 25))
  replace I1 := hide ((I1.out.gr hg).alloc (.cells #[.int .i64 p, .int .u64 q] 25))
  have I2 := hide (Is2.new w2 (.int .i64 p) (.int .u64 q))
  replace HB := hide (HB.out.trans ((hg.alloc (.cells #[.int .i64 p, .int .u64 q] 25)).below.mono HB.out.size))
  clear hg
  obtain ⟨e0, e1, -, -⟩ := I2.out.c
  go_wp2_with fail
  clear e0 e1
  generalize hK : w2.heap.size = K at I2 ⊢
  clear hK
  generalize w2.alloc (.cells #[.int .i64 p, .int .u64 q] 25) = W3 at I0 I1 I2 HB ⊢
  refine (n2.out W3 (HR.out.below HB.out)).mono ?_; rintro e w4 ⟨rfl, hg⟩
  replace I0 := hide ((I0.out.gr hg).alloc (.cells #[.int .i64 r, .int .u64 n] 25))
  replace I1 := hide ((I1.out.gr hg).alloc (.cells #[.int .i64 r, .int .u64 n] 25))
  replace I2 := hide ((I2.out.gr hg).alloc (.cells #[.int .i64 r, .int .u64 n] 25))
  have I3 := hide (Is2.new w4 (.int .i64 r) (.int .u64 n))
  replace HB := hide (HB.out.trans ((hg.alloc (.cells #[.int .i64 r, .int .u64 n] 25)).below.mono HB.out.size))
  clear hg
  obtain ⟨a0, a1, -, -⟩ := I0.out.c
  obtain ⟨b0, b1, -, -⟩ := I1.out.c
  obtain ⟨c0, c1, -, -⟩ := I2.out.c
  obtain ⟨d0, d1, -, -⟩ := I3.out.c
  have hz := I0.out.lt
  go_wp2_with fail
  clear a0 a1 b0 b1 c0 c1 d0 d1 hz
  generalize hK : w4.heap.size = K2 at I3 ⊢
  clear hK
  generalize w4.alloc (.cells #[.int .i64 r, .int .u64 n] 25) = W5 at I0 I1 I2 I3 HB ⊢
  refine (k1.out W5).mono ?_; rintro e W6 ⟨rfl, hg⟩
  replace I0 := hide (I0.out.gr hg)
  replace I1 := hide (I1.out.gr hg)
  replace I2 := hide (I2.out.gr hg)
  replace HB := hide (HB.out.trans (hg.below.mono HB.out.size))
  clear hg
  obtain ⟨a0, a1, -, -⟩ := I0.out.c
  obtain ⟨b0, b1, -, -⟩ := I1.out.c
  obtain ⟨c0, c1, -, -⟩ := I2.out.c
  go_wp2_with fail
  clear a0 a1 b0 b1 c0 c1
  refine (k2.out W6 (HR.out.below HB.out)).mono ?_; rintro e W7 ⟨rfl, hg⟩
  replace I0 := hide (I0.out.gr hg)
  replace I1 := hide (I1.out.gr hg)
  replace I2 := hide (I2.out.gr hg)
  replace HB := hide (HB.out.trans (hg.below.mono HB.out.size))
  clear hg
  obtain ⟨a0, a1, -, -⟩ := I0.out.c
  obtain ⟨b0, b1, -, -⟩ := I1.out.c
  obtain ⟨c0, c1, -, -⟩ := I2.out.c
  go_wp2_with fail
  clear a0 a1 b0 b1 c0 c1
  refine (k3.out W7 (HR.out.below HB.out)).mono ?_; rintro e W8 ⟨rfl, hg⟩
  replace I0 := hide (I0.out.gr hg)
  replace I1 := hide (I1.out.gr hg)
  replace I2 := hide (I2.out.gr hg)
  replace HB := hide (HB.out.trans (hg.below.mono HB.out.size))
  clear hg
  obtain ⟨a0, a1, -, -⟩ := I0.out.c
  obtain ⟨b0, b1, -, -⟩ := I1.out.c
  obtain ⟨c0, c1, -, -⟩ := I2.out.c
  go_wp2_with fail
  clear a0 a1 b0 b1 c0 c1
  refine (k4.out W8).mono ?_; rintro e W9 ⟨rfl, hg⟩
  replace I0 := hide (I0.out.gr hg)
  replace I1 := hide (I1.out.gr hg)
  replace I2 := hide (I2.out.gr hg)
  replace HB := hide (HB.out.trans (hg.below.mono HB.out.size))
  clear hg
  obtain ⟨a0, a1, -, -⟩ := I0.out.c
  obtain ⟨b0, b1, -, -⟩ := I1.out.c
  obtain ⟨c0, c1, -, -⟩ := I2.out.c
  go_wp2_with fail
  clear a0 a1 b0 b1 c0 c1
  refine (k5.out W9).mono ?_; rintro e W10 ⟨rfl, hg⟩
  replace I0 := hide (I0.out.gr hg)
  replace I1 := hide (I1.out.gr hg)
  replace I2 := hide (I2.out.gr hg)
  replace HB := hide (HB.out.trans (hg.below.mono HB.out.size))
  clear hg
  obtain ⟨a0, a1, -, -⟩ := I0.out.c
  obtain ⟨b0, b1, -, -⟩ := I1.out.c
  obtain ⟨c0, c1, -, -⟩ := I2.out.c
  go_wp2
  go_ret
  exact ⟨rfl, HB.out⟩

theorem between_some (r n s m p q : Int) (h0 : 0 ≤ n) (h1 : n < 18446744073709551616) (h2 : 0 ≤ q) (h3 : q < 18446744073709551616) (w : World) (hR : Ranks w) (hN : nxE r n = (p, q, true)) (hP : pvE p q = (r, n, true)) (hc : ckE p q = 0) (hl : klt (r, n) (p, q) = true)
    (hb : ckE s m = 0 → klt (r, n) (s, m) = true → klt (s, m) (p, q) = false) :
    Calls Tryd.prog 8 #[(.agg #[.int .i64 (r), .int .u64 (n)]), (.agg #[.int .i64 (s), .int .u64 (m)])] w fun e w' => e = .returned (.bool true) ∧ Below w.heap.size w w' := by
  rcases ck_cases s m with ⟨ho, -⟩ | ⟨ho, -⟩
  · exact between_obad r n s m p q h0 h1 h2 h3 w hR hN hP hc hl ho
  · cases hk : klt (r, n) (s, m)
    · exact between_below r n s m p q h0 h1 h2 h3 w hR hN hP hc hl ho hk
    · exact between_above r n s m p q h0 h1 h2 h3 w hR hN hP hc hl ho hk (hb ho hk)

theorem keyBetween_any (r n s m : Int) (h0 : 0 ≤ n) (h1 : n < 18446744073709551616) (h2 : 0 ≤ m) (h3 : m < 18446744073709551616) (w : World) (hR : Ranks w) :
    Calls Tryd.prog 8 #[(.agg #[.int .i64 (r), .int .u64 (n)]), (.agg #[.int .i64 (s), .int .u64 (m)])] w fun e w' => e = .returned (.bool true) ∧ Below w.heap.size w w' := by
  rcases ck_cases r n with ⟨hc, -⟩ | ⟨hc, hd⟩
  · exact between_bad r n s m h0 h1 w hR hc
  · rcases hd with rfl | ⟨rfl, rfl⟩ | ⟨rfl, rfl⟩
    · by_cases hm : n = 18446744073709551615
      · subst hm
        refine between_some _ _ s m 3 0 h0 h1 (by omega) (by omega) w hR (by unfold nxE; rw [if_neg (by rw [hc]; decide), if_neg (by decide), if_pos rfl]) (by unfold pvE; rw [if_neg (by decide), if_pos rfl]) (by decide) (by rw [klt_iff]; omega) ?_
        intro hk hl
        rw [klt_iff] at hl
        rw [klt_false]
        have hs := ck_ok hk
        simp only [] at *
        omega
      · refine between_some _ _ s m 2 (n + 1) h0 h1 (by omega) (by omega) w hR (by unfold nxE; rw [if_neg (by rw [hc]; decide), if_neg (by decide), if_neg hm]) (by unfold pvE; rw [if_neg (by rw [ck_at]; decide), if_neg (by decide), if_neg (by omega)]; simp) (ck_at _) (by rw [klt_iff]; exact Or.inr ⟨rfl, by show n < n + 1; omega⟩) ?_
        intro hk hl
        rw [klt_iff] at hl
        rw [klt_false]
        simp only [] at *
        omega
    · refine between_some _ _ s m 2 0 h0 h1 (by omega) (by omega) w hR (by decide) (by decide) (by decide) (by decide) ?_
      intro hk hl
      rw [klt_iff] at hl
      rw [klt_false]
      have hs := ck_ok hk
      simp only [] at *
      omega
    · exact between_high 3 0 s m h0 h1 w hR hc rfl

end Go.Proofs.YtagokcdngpidhaaDoor
