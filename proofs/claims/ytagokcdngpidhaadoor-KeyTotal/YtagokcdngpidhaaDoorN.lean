/- KeyTotal, walked. -/
import Derived.Test.YtagokcdngpidhaaDoorK
namespace Go.Proofs.YtagokcdngpidhaaDoor
open Go.RowKit

theorem kcmp_cases (r n s m : Int) : kcmp (r, n) (s, m) = -1 ∧ (r < s ∨ r = s ∧ n < m) ∨ kcmp (r, n) (s, m) = 1 ∧ (s < r ∨ r = s ∧ m < n) ∨ kcmp (r, n) (s, m) = 0 ∧ r = s ∧ n = m := by
  by_cases h : r < s ∨ r = s ∧ n < m
  · exact Or.inl ⟨kcmp_lt h, h⟩
  · by_cases h2 : s < r ∨ r = s ∧ m < n
    · exact Or.inr (Or.inl ⟨kcmp_gt h2, h2⟩)
    · have e : r = s ∧ n = m := by omega
      obtain ⟨rfl, rfl⟩ := e
      exact Or.inr (Or.inr ⟨kcmp_eq r n, rfl, rfl⟩)
theorem klt_of {a b : Int × Int} {x : Int} (h : kcmp a b = x) : klt a b = decide (x < 0) := by unfold klt; rw [h]

set_option maxHeartbeats 8000000 in
set_option maxRecDepth 100000 in
theorem total_mmm (r n s m t o : Int) (w : World) (hR : Ranks w) (hX : kcmp (r, n) (s, m) = -1) (hX' : kcmp (s, m) (r, n) = 1) (hY : kcmp (s, m) (t, o) = -1) (hZ : kcmp (r, n) (t, o) = -1) (hD : ¬ (r, n) = (s, m)) :
    Calls Tryd.prog 7 #[(.agg #[.int .i64 (r), .int .u64 (n)]), (.agg #[.int .i64 (s), .int .u64 (m)]), (.agg #[.int .i64 (t), .int .u64 (o)])] w fun e w' => e = .returned (.bool true) ∧ Below w.heap.size w w' := by
  have mixed : Tryd.prog.follows .mixedOrders = true := by kernel_rfl
  have k4 := fun w => kCompare_any s m r n w
  have k5 := fun w => kLess_any r n s m w
  rw [klt_of hX] at k5
  rw [hX'] at k4
  rw [show decide ((-1 : Int) < 0) = true from rfl] at k5
  have hne : ∀ w, Sem.run Tryd.prog (binOp .eql 25 (.agg #[.int .i64 (r), .int .u64 (n)]) (.agg #[.int .i64 (s), .int .u64 (m)])) w = .ok (.bool false) w := fun w => by rw [eqKey, beq_key_ne hD]
  clear hD
  replace k4 := hide k4
  replace k5 := hide k5
  have HR := hide hR
  clear hR
  have I0 := hide (((Is2.new w (.int .i64 r) (.int .u64 n)).alloc (.cells #[.int .i64 s, .int .u64 m] 25)).alloc (.cells #[.int .i64 t, .int .u64 o] 25))
  have I1 := (Is2.new (w.alloc (.cells #[.int .i64 r, .int .u64 n] 25)) (.int .i64 s) (.int .u64 m)).alloc (.cells #[.int .i64 t, .int .u64 o] 25)
  have I2 := Is2.new ((w.alloc (.cells #[.int .i64 r, .int .u64 n] 25)).alloc (.cells #[.int .i64 s, .int .u64 m] 25)) (.int .i64 t) (.int .u64 o)
  simp only [World.size_alloc] at I1 I2
  replace I1 := hide I1
  replace I2 := hide I2
  have HG := hide (show Gr w (((w.alloc (.cells #[.int .i64 r, .int .u64 n] 25)).alloc (.cells #[.int .i64 s, .int .u64 m] 25)).alloc (.cells #[.int .i64 t, .int .u64 o] 25)) from (((Gr.refl w).alloc _).alloc _).alloc _)
  go_enter Tryd.func7, Tryd.ntmps7
  go_wp2_with fail
  generalize ((w.alloc (.cells #[.int .i64 r, .int .u64 n] 25)).alloc (.cells #[.int .i64 s, .int .u64 m] 25)).alloc (.cells #[.int .i64 t, .int .u64 o] 25) = W0 at I0 I1 I2 HG ⊢
  refine (awake_any W0 (HR.out.gr HG.out)).mono ?_; rintro e W1 ⟨rfl, hb⟩
  replace I0 := hide (I0.out.below hb)
  replace I1 := hide (I1.out.below hb)
  replace I2 := hide (I2.out.below hb)
  have HB := hide (show Below w.heap.size w W1 from HG.out.below.trans (hb.mono HG.out.le))
  clear hb HG
  go_wp2
  have c00 : ∀ p : Bel W1, p.v.cell? ⟨w.heap.size, 0, none⟩ = some (.int .i64 r) := bel_cell I0.out.c.1
  have c01 : ∀ p : Bel W1, p.v.cell? ⟨w.heap.size, 1, none⟩ = some (.int .u64 n) := bel_cell I0.out.c.2.1
  have c10 : ∀ p : Bel W1, p.v.cell? ⟨w.heap.size + 1, 0, none⟩ = some (.int .i64 s) := bel_cell I1.out.c.1
  have c11 : ∀ p : Bel W1, p.v.cell? ⟨w.heap.size + 1, 1, none⟩ = some (.int .u64 m) := bel_cell I1.out.c.2.1
  have c20 : ∀ p : Bel W1, p.v.cell? ⟨w.heap.size + 1 + 1, 0, none⟩ = some (.int .i64 t) := bel_cell I2.out.c.1
  have c21 : ∀ p : Bel W1, p.v.cell? ⟨w.heap.size + 1 + 1, 1, none⟩ = some (.int .u64 o) := bel_cell I2.out.c.2.1
  haveI : Inhabited (Bel W1) := ⟨⟨W1, Below.refl _ _⟩⟩
  refine wp_region_bel (by assumption) (by kernel_rfl) ?_
  repeat (quiet_step ((go_at_call 11; exact bel_gr _ (kCompare_any _ _ _ _ _))))
  refine wpQuiet_nil ?_
  intro _ hw'
  obtain ⟨pp, rfl⟩ := hw'
  clear c00 c01 c10 c11 c20 c21
  replace HB := hide (HB.out.trans (pp.h.mono HB.out.size))
  replace I0 := hide (I0.out.below pp.h)
  replace I1 := hide (I1.out.below pp.h)
  generalize pp.v = W2 at I0 I1 HB ⊢
  obtain ⟨a0, a1, -, -⟩ := I0.out.c
  obtain ⟨b0, b1, -, -⟩ := I1.out.c
  go_wp2_with fail
  refine (k4.out W2).mono ?_; rintro e W3 ⟨rfl, hg⟩
  replace HB := hide (HB.out.trans (hg.below.mono HB.out.size))
  replace I0 := hide (I0.out.gr hg)
  replace I1 := hide (I1.out.gr hg)
  clear a0 a1 b0 b1 hg
  obtain ⟨a0, a1, -, -⟩ := I0.out.c
  obtain ⟨b0, b1, -, -⟩ := I1.out.c
  go_wp2_with fail
  refine (k5.out W3).mono ?_; rintro e W4 ⟨rfl, hg⟩
  replace HB := hide (HB.out.trans (hg.below.mono HB.out.size))
  go_wp2
  go_ret
  exact ⟨rfl, HB.out⟩

set_option maxHeartbeats 8000000 in
set_option maxRecDepth 100000 in
theorem total_mzm (r n s m t o : Int) (w : World) (hR : Ranks w) (hX : kcmp (r, n) (s, m) = -1) (hX' : kcmp (s, m) (r, n) = 1) (hY : kcmp (s, m) (t, o) = 0) (hZ : kcmp (r, n) (t, o) = -1) (hD : ¬ (r, n) = (s, m)) :
    Calls Tryd.prog 7 #[(.agg #[.int .i64 (r), .int .u64 (n)]), (.agg #[.int .i64 (s), .int .u64 (m)]), (.agg #[.int .i64 (t), .int .u64 (o)])] w fun e w' => e = .returned (.bool true) ∧ Below w.heap.size w w' := by
  have mixed : Tryd.prog.follows .mixedOrders = true := by kernel_rfl
  have k4 := fun w => kCompare_any s m r n w
  have k5 := fun w => kLess_any r n s m w
  rw [klt_of hX] at k5
  rw [hX'] at k4
  rw [show decide ((-1 : Int) < 0) = true from rfl] at k5
  have hne : ∀ w, Sem.run Tryd.prog (binOp .eql 25 (.agg #[.int .i64 (r), .int .u64 (n)]) (.agg #[.int .i64 (s), .int .u64 (m)])) w = .ok (.bool false) w := fun w => by rw [eqKey, beq_key_ne hD]
  clear hD
  replace k4 := hide k4
  replace k5 := hide k5
  have HR := hide hR
  clear hR
  have I0 := hide (((Is2.new w (.int .i64 r) (.int .u64 n)).alloc (.cells #[.int .i64 s, .int .u64 m] 25)).alloc (.cells #[.int .i64 t, .int .u64 o] 25))
  have I1 := (Is2.new (w.alloc (.cells #[.int .i64 r, .int .u64 n] 25)) (.int .i64 s) (.int .u64 m)).alloc (.cells #[.int .i64 t, .int .u64 o] 25)
  have I2 := Is2.new ((w.alloc (.cells #[.int .i64 r, .int .u64 n] 25)).alloc (.cells #[.int .i64 s, .int .u64 m] 25)) (.int .i64 t) (.int .u64 o)
  simp only [World.size_alloc] at I1 I2
  replace I1 := hide I1
  replace I2 := hide I2
  have HG := hide (show Gr w (((w.alloc (.cells #[.int .i64 r, .int .u64 n] 25)).alloc (.cells #[.int .i64 s, .int .u64 m] 25)).alloc (.cells #[.int .i64 t, .int .u64 o] 25)) from (((Gr.refl w).alloc _).alloc _).alloc _)
  go_enter Tryd.func7, Tryd.ntmps7
  go_wp2_with fail
  generalize ((w.alloc (.cells #[.int .i64 r, .int .u64 n] 25)).alloc (.cells #[.int .i64 s, .int .u64 m] 25)).alloc (.cells #[.int .i64 t, .int .u64 o] 25) = W0 at I0 I1 I2 HG ⊢
  refine (awake_any W0 (HR.out.gr HG.out)).mono ?_; rintro e W1 ⟨rfl, hb⟩
  replace I0 := hide (I0.out.below hb)
  replace I1 := hide (I1.out.below hb)
  replace I2 := hide (I2.out.below hb)
  have HB := hide (show Below w.heap.size w W1 from HG.out.below.trans (hb.mono HG.out.le))
  clear hb HG
  go_wp2
  have c00 : ∀ p : Bel W1, p.v.cell? ⟨w.heap.size, 0, none⟩ = some (.int .i64 r) := bel_cell I0.out.c.1
  have c01 : ∀ p : Bel W1, p.v.cell? ⟨w.heap.size, 1, none⟩ = some (.int .u64 n) := bel_cell I0.out.c.2.1
  have c10 : ∀ p : Bel W1, p.v.cell? ⟨w.heap.size + 1, 0, none⟩ = some (.int .i64 s) := bel_cell I1.out.c.1
  have c11 : ∀ p : Bel W1, p.v.cell? ⟨w.heap.size + 1, 1, none⟩ = some (.int .u64 m) := bel_cell I1.out.c.2.1
  have c20 : ∀ p : Bel W1, p.v.cell? ⟨w.heap.size + 1 + 1, 0, none⟩ = some (.int .i64 t) := bel_cell I2.out.c.1
  have c21 : ∀ p : Bel W1, p.v.cell? ⟨w.heap.size + 1 + 1, 1, none⟩ = some (.int .u64 o) := bel_cell I2.out.c.2.1
  haveI : Inhabited (Bel W1) := ⟨⟨W1, Below.refl _ _⟩⟩
  refine wp_region_bel (by assumption) (by kernel_rfl) ?_
  repeat (quiet_step ((go_at_call 11; exact bel_gr _ (kCompare_any _ _ _ _ _))))
  refine wpQuiet_nil ?_
  intro _ hw'
  obtain ⟨pp, rfl⟩ := hw'
  clear c00 c01 c10 c11 c20 c21
  replace HB := hide (HB.out.trans (pp.h.mono HB.out.size))
  replace I0 := hide (I0.out.below pp.h)
  replace I1 := hide (I1.out.below pp.h)
  generalize pp.v = W2 at I0 I1 HB ⊢
  obtain ⟨a0, a1, -, -⟩ := I0.out.c
  obtain ⟨b0, b1, -, -⟩ := I1.out.c
  go_wp2_with fail
  refine (k4.out W2).mono ?_; rintro e W3 ⟨rfl, hg⟩
  replace HB := hide (HB.out.trans (hg.below.mono HB.out.size))
  replace I0 := hide (I0.out.gr hg)
  replace I1 := hide (I1.out.gr hg)
  clear a0 a1 b0 b1 hg
  obtain ⟨a0, a1, -, -⟩ := I0.out.c
  obtain ⟨b0, b1, -, -⟩ := I1.out.c
  go_wp2_with fail
  refine (k5.out W3).mono ?_; rintro e W4 ⟨rfl, hg⟩
  replace HB := hide (HB.out.trans (hg.below.mono HB.out.size))
  go_wp2
  go_ret
  exact ⟨rfl, HB.out⟩

set_option maxHeartbeats 8000000 in
set_option maxRecDepth 100000 in
theorem total_mp (r n s m t o Z : Int) (w : World) (hR : Ranks w) (hX : kcmp (r, n) (s, m) = -1) (hX' : kcmp (s, m) (r, n) = 1) (hY : kcmp (s, m) (t, o) = 1) (hZ : kcmp (r, n) (t, o) = Z) (hD : ¬ (r, n) = (s, m)) :
    Calls Tryd.prog 7 #[(.agg #[.int .i64 (r), .int .u64 (n)]), (.agg #[.int .i64 (s), .int .u64 (m)]), (.agg #[.int .i64 (t), .int .u64 (o)])] w fun e w' => e = .returned (.bool true) ∧ Below w.heap.size w w' := by
  have mixed : Tryd.prog.follows .mixedOrders = true := by kernel_rfl
  have k4 := fun w => kCompare_any s m r n w
  have k5 := fun w => kLess_any r n s m w
  rw [klt_of hX] at k5
  rw [hX'] at k4
  rw [show decide ((-1 : Int) < 0) = true from rfl] at k5
  have hne : ∀ w, Sem.run Tryd.prog (binOp .eql 25 (.agg #[.int .i64 (r), .int .u64 (n)]) (.agg #[.int .i64 (s), .int .u64 (m)])) w = .ok (.bool false) w := fun w => by rw [eqKey, beq_key_ne hD]
  clear hD
  replace k4 := hide k4
  replace k5 := hide k5
  have HR := hide hR
  clear hR
  have I0 := hide (((Is2.new w (.int .i64 r) (.int .u64 n)).alloc (.cells #[.int .i64 s, .int .u64 m] 25)).alloc (.cells #[.int .i64 t, .int .u64 o] 25))
  have I1 := (Is2.new (w.alloc (.cells #[.int .i64 r, .int .u64 n] 25)) (.int .i64 s) (.int .u64 m)).alloc (.cells #[.int .i64 t, .int .u64 o] 25)
  have I2 := Is2.new ((w.alloc (.cells #[.int .i64 r, .int .u64 n] 25)).alloc (.cells #[.int .i64 s, .int .u64 m] 25)) (.int .i64 t) (.int .u64 o)
  simp only [World.size_alloc] at I1 I2
  replace I1 := hide I1
  replace I2 := hide I2
  have HG := hide (show Gr w (((w.alloc (.cells #[.int .i64 r, .int .u64 n] 25)).alloc (.cells #[.int .i64 s, .int .u64 m] 25)).alloc (.cells #[.int .i64 t, .int .u64 o] 25)) from (((Gr.refl w).alloc _).alloc _).alloc _)
  go_enter Tryd.func7, Tryd.ntmps7
  go_wp2_with fail
  generalize ((w.alloc (.cells #[.int .i64 r, .int .u64 n] 25)).alloc (.cells #[.int .i64 s, .int .u64 m] 25)).alloc (.cells #[.int .i64 t, .int .u64 o] 25) = W0 at I0 I1 I2 HG ⊢
  refine (awake_any W0 (HR.out.gr HG.out)).mono ?_; rintro e W1 ⟨rfl, hb⟩
  replace I0 := hide (I0.out.below hb)
  replace I1 := hide (I1.out.below hb)
  replace I2 := hide (I2.out.below hb)
  have HB := hide (show Below w.heap.size w W1 from HG.out.below.trans (hb.mono HG.out.le))
  clear hb HG
  go_wp2
  have c00 : ∀ p : Bel W1, p.v.cell? ⟨w.heap.size, 0, none⟩ = some (.int .i64 r) := bel_cell I0.out.c.1
  have c01 : ∀ p : Bel W1, p.v.cell? ⟨w.heap.size, 1, none⟩ = some (.int .u64 n) := bel_cell I0.out.c.2.1
  have c10 : ∀ p : Bel W1, p.v.cell? ⟨w.heap.size + 1, 0, none⟩ = some (.int .i64 s) := bel_cell I1.out.c.1
  have c11 : ∀ p : Bel W1, p.v.cell? ⟨w.heap.size + 1, 1, none⟩ = some (.int .u64 m) := bel_cell I1.out.c.2.1
  have c20 : ∀ p : Bel W1, p.v.cell? ⟨w.heap.size + 1 + 1, 0, none⟩ = some (.int .i64 t) := bel_cell I2.out.c.1
  have c21 : ∀ p : Bel W1, p.v.cell? ⟨w.heap.size + 1 + 1, 1, none⟩ = some (.int .u64 o) := bel_cell I2.out.c.2.1
  haveI : Inhabited (Bel W1) := ⟨⟨W1, Below.refl _ _⟩⟩
  refine wp_region_bel (by assumption) (by kernel_rfl) ?_
  repeat (quiet_step ((go_at_call 11; exact bel_gr _ (kCompare_any _ _ _ _ _))))
  refine wpQuiet_nil ?_
  intro _ hw'
  obtain ⟨pp, rfl⟩ := hw'
  clear c00 c01 c10 c11 c20 c21
  replace HB := hide (HB.out.trans (pp.h.mono HB.out.size))
  replace I0 := hide (I0.out.below pp.h)
  replace I1 := hide (I1.out.below pp.h)
  generalize pp.v = W2 at I0 I1 HB ⊢
  obtain ⟨a0, a1, -, -⟩ := I0.out.c
  obtain ⟨b0, b1, -, -⟩ := I1.out.c
  go_wp2_with fail
  refine (k4.out W2).mono ?_; rintro e W3 ⟨rfl, hg⟩
  replace HB := hide (HB.out.trans (hg.below.mono HB.out.size))
  replace I0 := hide (I0.out.gr hg)
  replace I1 := hide (I1.out.gr hg)
  clear a0 a1 b0 b1 hg
  obtain ⟨a0, a1, -, -⟩ := I0.out.c
  obtain ⟨b0, b1, -, -⟩ := I1.out.c
  go_wp2_with fail
  refine (k5.out W3).mono ?_; rintro e W4 ⟨rfl, hg⟩
  replace HB := hide (HB.out.trans (hg.below.mono HB.out.size))
  go_wp2
  go_ret
  exact ⟨rfl, HB.out⟩

set_option maxHeartbeats 8000000 in
set_option maxRecDepth 100000 in
theorem total_p (r n s m t o Y Z : Int) (w : World) (hR : Ranks w) (hX : kcmp (r, n) (s, m) = 1) (hX' : kcmp (s, m) (r, n) = -1) (hY : kcmp (s, m) (t, o) = Y) (hZ : kcmp (r, n) (t, o) = Z) (hD : ¬ (r, n) = (s, m)) :
    Calls Tryd.prog 7 #[(.agg #[.int .i64 (r), .int .u64 (n)]), (.agg #[.int .i64 (s), .int .u64 (m)]), (.agg #[.int .i64 (t), .int .u64 (o)])] w fun e w' => e = .returned (.bool true) ∧ Below w.heap.size w w' := by
  have mixed : Tryd.prog.follows .mixedOrders = true := by kernel_rfl
  have k4 := fun w => kCompare_any s m r n w
  have k5 := fun w => kLess_any r n s m w
  rw [klt_of hX] at k5
  rw [hX'] at k4
  rw [show decide ((1 : Int) < 0) = false from rfl] at k5
  have hne : ∀ w, Sem.run Tryd.prog (binOp .eql 25 (.agg #[.int .i64 (r), .int .u64 (n)]) (.agg #[.int .i64 (s), .int .u64 (m)])) w = .ok (.bool false) w := fun w => by rw [eqKey, beq_key_ne hD]
  clear hD
  replace k4 := hide k4
  replace k5 := hide k5
  have HR := hide hR
  clear hR
  have I0 := hide (((Is2.new w (.int .i64 r) (.int .u64 n)).alloc (.cells #[.int .i64 s, .int .u64 m] 25)).alloc (.cells #[.int .i64 t, .int .u64 o] 25))
  have I1 := (Is2.new (w.alloc (.cells #[.int .i64 r, .int .u64 n] 25)) (.int .i64 s) (.int .u64 m)).alloc (.cells #[.int .i64 t, .int .u64 o] 25)
  have I2 := Is2.new ((w.alloc (.cells #[.int .i64 r, .int .u64 n] 25)).alloc (.cells #[.int .i64 s, .int .u64 m] 25)) (.int .i64 t) (.int .u64 o)
  simp only [World.size_alloc] at I1 I2
  replace I1 := hide I1
  replace I2 := hide I2
  have HG := hide (show Gr w (((w.alloc (.cells #[.int .i64 r, .int .u64 n] 25)).alloc (.cells #[.int .i64 s, .int .u64 m] 25)).alloc (.cells #[.int .i64 t, .int .u64 o] 25)) from (((Gr.refl w).alloc _).alloc _).alloc _)
  go_enter Tryd.func7, Tryd.ntmps7
  go_wp2_with fail
  generalize ((w.alloc (.cells #[.int .i64 r, .int .u64 n] 25)).alloc (.cells #[.int .i64 s, .int .u64 m] 25)).alloc (.cells #[.int .i64 t, .int .u64 o] 25) = W0 at I0 I1 I2 HG ⊢
  refine (awake_any W0 (HR.out.gr HG.out)).mono ?_; rintro e W1 ⟨rfl, hb⟩
  replace I0 := hide (I0.out.below hb)
  replace I1 := hide (I1.out.below hb)
  replace I2 := hide (I2.out.below hb)
  have HB := hide (show Below w.heap.size w W1 from HG.out.below.trans (hb.mono HG.out.le))
  clear hb HG
  go_wp2
  have c00 : ∀ p : Bel W1, p.v.cell? ⟨w.heap.size, 0, none⟩ = some (.int .i64 r) := bel_cell I0.out.c.1
  have c01 : ∀ p : Bel W1, p.v.cell? ⟨w.heap.size, 1, none⟩ = some (.int .u64 n) := bel_cell I0.out.c.2.1
  have c10 : ∀ p : Bel W1, p.v.cell? ⟨w.heap.size + 1, 0, none⟩ = some (.int .i64 s) := bel_cell I1.out.c.1
  have c11 : ∀ p : Bel W1, p.v.cell? ⟨w.heap.size + 1, 1, none⟩ = some (.int .u64 m) := bel_cell I1.out.c.2.1
  have c20 : ∀ p : Bel W1, p.v.cell? ⟨w.heap.size + 1 + 1, 0, none⟩ = some (.int .i64 t) := bel_cell I2.out.c.1
  have c21 : ∀ p : Bel W1, p.v.cell? ⟨w.heap.size + 1 + 1, 1, none⟩ = some (.int .u64 o) := bel_cell I2.out.c.2.1
  haveI : Inhabited (Bel W1) := ⟨⟨W1, Below.refl _ _⟩⟩
  refine wp_region_bel (by assumption) (by kernel_rfl) ?_
  repeat (quiet_step ((go_at_call 11; exact bel_gr _ (kCompare_any _ _ _ _ _))))
  refine wpQuiet_nil ?_
  intro _ hw'
  obtain ⟨pp, rfl⟩ := hw'
  clear c00 c01 c10 c11 c20 c21
  replace HB := hide (HB.out.trans (pp.h.mono HB.out.size))
  replace I0 := hide (I0.out.below pp.h)
  replace I1 := hide (I1.out.below pp.h)
  generalize pp.v = W2 at I0 I1 HB ⊢
  obtain ⟨a0, a1, -, -⟩ := I0.out.c
  obtain ⟨b0, b1, -, -⟩ := I1.out.c
  go_wp2_with fail
  refine (k4.out W2).mono ?_; rintro e W3 ⟨rfl, hg⟩
  replace HB := hide (HB.out.trans (hg.below.mono HB.out.size))
  replace I0 := hide (I0.out.gr hg)
  replace I1 := hide (I1.out.gr hg)
  clear a0 a1 b0 b1 hg
  obtain ⟨a0, a1, -, -⟩ := I0.out.c
  obtain ⟨b0, b1, -, -⟩ := I1.out.c
  go_wp2_with fail
  refine (k5.out W3).mono ?_; rintro e W4 ⟨rfl, hg⟩
  replace HB := hide (HB.out.trans (hg.below.mono HB.out.size))
  go_wp2
  go_ret
  exact ⟨rfl, HB.out⟩

set_option maxHeartbeats 8000000 in
set_option maxRecDepth 100000 in
theorem total_zm (r n t o : Int) (w : World) (hR : Ranks w) (hX : kcmp (r, n) (r, n) = 0) (hX' : kcmp (r, n) (r, n) = 0) (hY : kcmp (r, n) (t, o) = -1) (_hZ : kcmp (r, n) (t, o) = -1) :
    Calls Tryd.prog 7 #[(.agg #[.int .i64 (r), .int .u64 (n)]), (.agg #[.int .i64 (r), .int .u64 (n)]), (.agg #[.int .i64 (t), .int .u64 (o)])] w fun e w' => e = .returned (.bool true) ∧ Below w.heap.size w w' := by
  have mixed : Tryd.prog.follows .mixedOrders = true := by kernel_rfl
  have k4 := fun w => kCompare_any r n r n w
  have k5 := fun w => kLess_any r n r n w
  rw [klt_of hX] at k5
  rw [hX'] at k4
  rw [show decide ((0 : Int) < 0) = false from rfl] at k5
  replace k4 := hide k4
  replace k5 := hide k5
  have HR := hide hR
  clear hR
  have I0 := hide (((Is2.new w (.int .i64 r) (.int .u64 n)).alloc (.cells #[.int .i64 r, .int .u64 n] 25)).alloc (.cells #[.int .i64 t, .int .u64 o] 25))
  have I1 := (Is2.new (w.alloc (.cells #[.int .i64 r, .int .u64 n] 25)) (.int .i64 r) (.int .u64 n)).alloc (.cells #[.int .i64 t, .int .u64 o] 25)
  have I2 := Is2.new ((w.alloc (.cells #[.int .i64 r, .int .u64 n] 25)).alloc (.cells #[.int .i64 r, .int .u64 n] 25)) (.int .i64 t) (.int .u64 o)
  simp only [World.size_alloc] at I1 I2
  replace I1 := hide I1
  replace I2 := hide I2
  have HG := hide (show Gr w (((w.alloc (.cells #[.int .i64 r, .int .u64 n] 25)).alloc (.cells #[.int .i64 r, .int .u64 n] 25)).alloc (.cells #[.int .i64 t, .int .u64 o] 25)) from (((Gr.refl w).alloc _).alloc _).alloc _)
  go_enter Tryd.func7, Tryd.ntmps7
  go_wp2_with fail
  generalize ((w.alloc (.cells #[.int .i64 r, .int .u64 n] 25)).alloc (.cells #[.int .i64 r, .int .u64 n] 25)).alloc (.cells #[.int .i64 t, .int .u64 o] 25) = W0 at I0 I1 I2 HG ⊢
  refine (awake_any W0 (HR.out.gr HG.out)).mono ?_; rintro e W1 ⟨rfl, hb⟩
  replace I0 := hide (I0.out.below hb)
  replace I1 := hide (I1.out.below hb)
  replace I2 := hide (I2.out.below hb)
  have HB := hide (show Below w.heap.size w W1 from HG.out.below.trans (hb.mono HG.out.le))
  clear hb HG
  go_wp2
  have c00 : ∀ p : Bel W1, p.v.cell? ⟨w.heap.size, 0, none⟩ = some (.int .i64 r) := bel_cell I0.out.c.1
  have c01 : ∀ p : Bel W1, p.v.cell? ⟨w.heap.size, 1, none⟩ = some (.int .u64 n) := bel_cell I0.out.c.2.1
  have c10 : ∀ p : Bel W1, p.v.cell? ⟨w.heap.size + 1, 0, none⟩ = some (.int .i64 r) := bel_cell I1.out.c.1
  have c11 : ∀ p : Bel W1, p.v.cell? ⟨w.heap.size + 1, 1, none⟩ = some (.int .u64 n) := bel_cell I1.out.c.2.1
  have c20 : ∀ p : Bel W1, p.v.cell? ⟨w.heap.size + 1 + 1, 0, none⟩ = some (.int .i64 t) := bel_cell I2.out.c.1
  have c21 : ∀ p : Bel W1, p.v.cell? ⟨w.heap.size + 1 + 1, 1, none⟩ = some (.int .u64 o) := bel_cell I2.out.c.2.1
  haveI : Inhabited (Bel W1) := ⟨⟨W1, Below.refl _ _⟩⟩
  refine wp_region_bel (by assumption) (by kernel_rfl) ?_
  repeat (quiet_step ((go_at_call 11; exact bel_gr _ (kCompare_any _ _ _ _ _))))
  refine wpQuiet_nil ?_
  intro _ hw'
  obtain ⟨pp, rfl⟩ := hw'
  clear c00 c01 c10 c11 c20 c21
  replace HB := hide (HB.out.trans (pp.h.mono HB.out.size))
  replace I0 := hide (I0.out.below pp.h)
  replace I1 := hide (I1.out.below pp.h)
  generalize pp.v = W2 at I0 I1 HB ⊢
  obtain ⟨a0, a1, -, -⟩ := I0.out.c
  obtain ⟨b0, b1, -, -⟩ := I1.out.c
  go_wp2_with fail
  refine (k4.out W2).mono ?_; rintro e W3 ⟨rfl, hg⟩
  replace HB := hide (HB.out.trans (hg.below.mono HB.out.size))
  replace I0 := hide (I0.out.gr hg)
  replace I1 := hide (I1.out.gr hg)
  clear a0 a1 b0 b1 hg
  obtain ⟨a0, a1, -, -⟩ := I0.out.c
  obtain ⟨b0, b1, -, -⟩ := I1.out.c
  go_wp2_with fail
  refine (k5.out W3).mono ?_; rintro e W4 ⟨rfl, hg⟩
  replace HB := hide (HB.out.trans (hg.below.mono HB.out.size))
  go_wp2
  go_ret
  exact ⟨rfl, HB.out⟩

set_option maxHeartbeats 8000000 in
set_option maxRecDepth 100000 in
theorem total_zz (r n t o : Int) (w : World) (hR : Ranks w) (hX : kcmp (r, n) (r, n) = 0) (hX' : kcmp (r, n) (r, n) = 0) (hY : kcmp (r, n) (t, o) = 0) (_hZ : kcmp (r, n) (t, o) = 0) :
    Calls Tryd.prog 7 #[(.agg #[.int .i64 (r), .int .u64 (n)]), (.agg #[.int .i64 (r), .int .u64 (n)]), (.agg #[.int .i64 (t), .int .u64 (o)])] w fun e w' => e = .returned (.bool true) ∧ Below w.heap.size w w' := by
  have mixed : Tryd.prog.follows .mixedOrders = true := by kernel_rfl
  have k4 := fun w => kCompare_any r n r n w
  have k5 := fun w => kLess_any r n r n w
  rw [klt_of hX] at k5
  rw [hX'] at k4
  rw [show decide ((0 : Int) < 0) = false from rfl] at k5
  replace k4 := hide k4
  replace k5 := hide k5
  have HR := hide hR
  clear hR
  have I0 := hide (((Is2.new w (.int .i64 r) (.int .u64 n)).alloc (.cells #[.int .i64 r, .int .u64 n] 25)).alloc (.cells #[.int .i64 t, .int .u64 o] 25))
  have I1 := (Is2.new (w.alloc (.cells #[.int .i64 r, .int .u64 n] 25)) (.int .i64 r) (.int .u64 n)).alloc (.cells #[.int .i64 t, .int .u64 o] 25)
  have I2 := Is2.new ((w.alloc (.cells #[.int .i64 r, .int .u64 n] 25)).alloc (.cells #[.int .i64 r, .int .u64 n] 25)) (.int .i64 t) (.int .u64 o)
  simp only [World.size_alloc] at I1 I2
  replace I1 := hide I1
  replace I2 := hide I2
  have HG := hide (show Gr w (((w.alloc (.cells #[.int .i64 r, .int .u64 n] 25)).alloc (.cells #[.int .i64 r, .int .u64 n] 25)).alloc (.cells #[.int .i64 t, .int .u64 o] 25)) from (((Gr.refl w).alloc _).alloc _).alloc _)
  go_enter Tryd.func7, Tryd.ntmps7
  go_wp2_with fail
  generalize ((w.alloc (.cells #[.int .i64 r, .int .u64 n] 25)).alloc (.cells #[.int .i64 r, .int .u64 n] 25)).alloc (.cells #[.int .i64 t, .int .u64 o] 25) = W0 at I0 I1 I2 HG ⊢
  refine (awake_any W0 (HR.out.gr HG.out)).mono ?_; rintro e W1 ⟨rfl, hb⟩
  replace I0 := hide (I0.out.below hb)
  replace I1 := hide (I1.out.below hb)
  replace I2 := hide (I2.out.below hb)
  have HB := hide (show Below w.heap.size w W1 from HG.out.below.trans (hb.mono HG.out.le))
  clear hb HG
  go_wp2
  have c00 : ∀ p : Bel W1, p.v.cell? ⟨w.heap.size, 0, none⟩ = some (.int .i64 r) := bel_cell I0.out.c.1
  have c01 : ∀ p : Bel W1, p.v.cell? ⟨w.heap.size, 1, none⟩ = some (.int .u64 n) := bel_cell I0.out.c.2.1
  have c10 : ∀ p : Bel W1, p.v.cell? ⟨w.heap.size + 1, 0, none⟩ = some (.int .i64 r) := bel_cell I1.out.c.1
  have c11 : ∀ p : Bel W1, p.v.cell? ⟨w.heap.size + 1, 1, none⟩ = some (.int .u64 n) := bel_cell I1.out.c.2.1
  have c20 : ∀ p : Bel W1, p.v.cell? ⟨w.heap.size + 1 + 1, 0, none⟩ = some (.int .i64 t) := bel_cell I2.out.c.1
  have c21 : ∀ p : Bel W1, p.v.cell? ⟨w.heap.size + 1 + 1, 1, none⟩ = some (.int .u64 o) := bel_cell I2.out.c.2.1
  haveI : Inhabited (Bel W1) := ⟨⟨W1, Below.refl _ _⟩⟩
  refine wp_region_bel (by assumption) (by kernel_rfl) ?_
  repeat (quiet_step ((go_at_call 11; exact bel_gr _ (kCompare_any _ _ _ _ _))))
  refine wpQuiet_nil ?_
  intro _ hw'
  obtain ⟨pp, rfl⟩ := hw'
  clear c00 c01 c10 c11 c20 c21
  replace HB := hide (HB.out.trans (pp.h.mono HB.out.size))
  replace I0 := hide (I0.out.below pp.h)
  replace I1 := hide (I1.out.below pp.h)
  generalize pp.v = W2 at I0 I1 HB ⊢
  obtain ⟨a0, a1, -, -⟩ := I0.out.c
  obtain ⟨b0, b1, -, -⟩ := I1.out.c
  go_wp2_with fail
  refine (k4.out W2).mono ?_; rintro e W3 ⟨rfl, hg⟩
  replace HB := hide (HB.out.trans (hg.below.mono HB.out.size))
  replace I0 := hide (I0.out.gr hg)
  replace I1 := hide (I1.out.gr hg)
  clear a0 a1 b0 b1 hg
  obtain ⟨a0, a1, -, -⟩ := I0.out.c
  obtain ⟨b0, b1, -, -⟩ := I1.out.c
  go_wp2_with fail
  refine (k5.out W3).mono ?_; rintro e W4 ⟨rfl, hg⟩
  replace HB := hide (HB.out.trans (hg.below.mono HB.out.size))
  go_wp2
  go_ret
  exact ⟨rfl, HB.out⟩

set_option maxHeartbeats 8000000 in
set_option maxRecDepth 100000 in
theorem total_zp (r n t o : Int) (w : World) (hR : Ranks w) (hX : kcmp (r, n) (r, n) = 0) (hX' : kcmp (r, n) (r, n) = 0) (hY : kcmp (r, n) (t, o) = 1) (_hZ : kcmp (r, n) (t, o) = 1) :
    Calls Tryd.prog 7 #[(.agg #[.int .i64 (r), .int .u64 (n)]), (.agg #[.int .i64 (r), .int .u64 (n)]), (.agg #[.int .i64 (t), .int .u64 (o)])] w fun e w' => e = .returned (.bool true) ∧ Below w.heap.size w w' := by
  have mixed : Tryd.prog.follows .mixedOrders = true := by kernel_rfl
  have k4 := fun w => kCompare_any r n r n w
  have k5 := fun w => kLess_any r n r n w
  rw [klt_of hX] at k5
  rw [hX'] at k4
  rw [show decide ((0 : Int) < 0) = false from rfl] at k5
  replace k4 := hide k4
  replace k5 := hide k5
  have HR := hide hR
  clear hR
  have I0 := hide (((Is2.new w (.int .i64 r) (.int .u64 n)).alloc (.cells #[.int .i64 r, .int .u64 n] 25)).alloc (.cells #[.int .i64 t, .int .u64 o] 25))
  have I1 := (Is2.new (w.alloc (.cells #[.int .i64 r, .int .u64 n] 25)) (.int .i64 r) (.int .u64 n)).alloc (.cells #[.int .i64 t, .int .u64 o] 25)
  have I2 := Is2.new ((w.alloc (.cells #[.int .i64 r, .int .u64 n] 25)).alloc (.cells #[.int .i64 r, .int .u64 n] 25)) (.int .i64 t) (.int .u64 o)
  simp only [World.size_alloc] at I1 I2
  replace I1 := hide I1
  replace I2 := hide I2
  have HG := hide (show Gr w (((w.alloc (.cells #[.int .i64 r, .int .u64 n] 25)).alloc (.cells #[.int .i64 r, .int .u64 n] 25)).alloc (.cells #[.int .i64 t, .int .u64 o] 25)) from (((Gr.refl w).alloc _).alloc _).alloc _)
  go_enter Tryd.func7, Tryd.ntmps7
  go_wp2_with fail
  generalize ((w.alloc (.cells #[.int .i64 r, .int .u64 n] 25)).alloc (.cells #[.int .i64 r, .int .u64 n] 25)).alloc (.cells #[.int .i64 t, .int .u64 o] 25) = W0 at I0 I1 I2 HG ⊢
  refine (awake_any W0 (HR.out.gr HG.out)).mono ?_; rintro e W1 ⟨rfl, hb⟩
  replace I0 := hide (I0.out.below hb)
  replace I1 := hide (I1.out.below hb)
  replace I2 := hide (I2.out.below hb)
  have HB := hide (show Below w.heap.size w W1 from HG.out.below.trans (hb.mono HG.out.le))
  clear hb HG
  go_wp2
  have c00 : ∀ p : Bel W1, p.v.cell? ⟨w.heap.size, 0, none⟩ = some (.int .i64 r) := bel_cell I0.out.c.1
  have c01 : ∀ p : Bel W1, p.v.cell? ⟨w.heap.size, 1, none⟩ = some (.int .u64 n) := bel_cell I0.out.c.2.1
  have c10 : ∀ p : Bel W1, p.v.cell? ⟨w.heap.size + 1, 0, none⟩ = some (.int .i64 r) := bel_cell I1.out.c.1
  have c11 : ∀ p : Bel W1, p.v.cell? ⟨w.heap.size + 1, 1, none⟩ = some (.int .u64 n) := bel_cell I1.out.c.2.1
  have c20 : ∀ p : Bel W1, p.v.cell? ⟨w.heap.size + 1 + 1, 0, none⟩ = some (.int .i64 t) := bel_cell I2.out.c.1
  have c21 : ∀ p : Bel W1, p.v.cell? ⟨w.heap.size + 1 + 1, 1, none⟩ = some (.int .u64 o) := bel_cell I2.out.c.2.1
  haveI : Inhabited (Bel W1) := ⟨⟨W1, Below.refl _ _⟩⟩
  refine wp_region_bel (by assumption) (by kernel_rfl) ?_
  repeat (quiet_step ((go_at_call 11; exact bel_gr _ (kCompare_any _ _ _ _ _))))
  refine wpQuiet_nil ?_
  intro _ hw'
  obtain ⟨pp, rfl⟩ := hw'
  clear c00 c01 c10 c11 c20 c21
  replace HB := hide (HB.out.trans (pp.h.mono HB.out.size))
  replace I0 := hide (I0.out.below pp.h)
  replace I1 := hide (I1.out.below pp.h)
  generalize pp.v = W2 at I0 I1 HB ⊢
  obtain ⟨a0, a1, -, -⟩ := I0.out.c
  obtain ⟨b0, b1, -, -⟩ := I1.out.c
  go_wp2_with fail
  refine (k4.out W2).mono ?_; rintro e W3 ⟨rfl, hg⟩
  replace HB := hide (HB.out.trans (hg.below.mono HB.out.size))
  replace I0 := hide (I0.out.gr hg)
  replace I1 := hide (I1.out.gr hg)
  clear a0 a1 b0 b1 hg
  obtain ⟨a0, a1, -, -⟩ := I0.out.c
  obtain ⟨b0, b1, -, -⟩ := I1.out.c
  go_wp2_with fail
  refine (k5.out W3).mono ?_; rintro e W4 ⟨rfl, hg⟩
  replace HB := hide (HB.out.trans (hg.below.mono HB.out.size))
  go_wp2
  go_ret
  exact ⟨rfl, HB.out⟩

theorem keyTotal_any (r n s m t o : Int) (w : World) (hR : Ranks w) :
    Calls Tryd.prog 7 #[(.agg #[.int .i64 (r), .int .u64 (n)]), (.agg #[.int .i64 (s), .int .u64 (m)]), (.agg #[.int .i64 (t), .int .u64 (o)])] w fun e w' => e = .returned (.bool true) ∧ Below w.heap.size w w' := by
  rcases kcmp_cases r n s m with ⟨hX, h1⟩ | ⟨hX, h1⟩ | ⟨hX, rfl, rfl⟩
  · have hX' : kcmp (s, m) (r, n) = 1 := kcmp_gt (by omega)
    have hD : ¬ (r, n) = (s, m) := fun e => by cases e; omega
    rcases kcmp_cases s m t o with ⟨hY, h2⟩ | ⟨hY, h2⟩ | ⟨hY, rfl, rfl⟩
    · exact total_mmm r n s m t o w hR hX hX' hY (kcmp_lt (by omega)) hD
    · exact total_mp r n s m t o _ w hR hX hX' hY rfl hD
    · exact total_mzm r n s m s m w hR hX hX' hY hX hD
  · have hX' : kcmp (s, m) (r, n) = -1 := kcmp_lt (by omega)
    have hD : ¬ (r, n) = (s, m) := fun e => by cases e; omega
    exact total_p r n s m t o _ _ w hR hX hX' rfl rfl hD
  · rcases kcmp_cases r n t o with ⟨hY, h2⟩ | ⟨hY, h2⟩ | ⟨hY, h2⟩
    · exact total_zm r n t o w hR hX hX hY hY
    · exact total_zp r n t o w hR hX hX hY hY
    · exact total_zz r n t o w hR hX hX hY hY

end Go.Proofs.YtagokcdngpidhaaDoor
