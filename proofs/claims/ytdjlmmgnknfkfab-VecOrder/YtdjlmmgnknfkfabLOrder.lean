/- The walk of statement VecOrder: true at any three vectors. -/
import Derived.Test.YtdjlmmgnknfkfabX
namespace Go.Proofs.Ytdjlmmgnknfkfab
open Go.RowKit

/-- What is told of three vectors that may be, and what follows for the numbers told. -/
theorem compare_yes (n b m c : Nat) (h1 : n ≤ 32) (h2 : b < 2 ^ n) (h3 : m ≤ 32) (h4 : c < 2 ^ m) (w : World) :
    Calls Try.prog 7 #[(.agg #[.int .i64 ((n : Int)), .int .u64 ((b : Int))]), (.agg #[.int .i64 ((m : Int)), .int .u64 ((c : Int))])] w fun e w' => e = .returned (.tuple #[.int .i64 (cmpN n b m c), .int .i64 0]) ∧ Below w.heap.size w w' := by
  have h := vCompare_any (n : Int) b m c (by omega) (by omega) w
  have e : rbS (n : Int) b m c = 0 := rbS_zero.2 ⟨rt_of n b h1 h2, rt_of m c h3 h4⟩
  unfold coE at h
  rw [e, sel_zero rfl] at h
  simp only [Int.toNat_natCast] at h
  exact h
theorem common_yes (n b m c : Nat) (h1 : n ≤ 32) (h2 : b < 2 ^ n) (h3 : m ≤ 32) (h4 : c < 2 ^ m) (w : World) :
    Calls Try.prog 8 #[(.agg #[.int .i64 ((n : Int)), .int .u64 ((b : Int))]), (.agg #[.int .i64 ((m : Int)), .int .u64 ((c : Int))])] w fun e w' => e = .returned (.tuple #[.int .i64 (cmn (bl n b) (bl m c) : Nat), .int .i64 0]) ∧ Below w.heap.size w w' := by
  have h := rCommon_any (n : Int) b m c (by omega) (by omega) w
  have e : rbS (n : Int) b m c = 0 := rbS_zero.2 ⟨rt_of n b h1 h2, rt_of m c h3 h4⟩
  unfold cmE at h
  rw [e, sel_zero rfl] at h
  simp only [Int.toNat_natCast] at h
  exact h
theorem prefix_yes (n b k : Nat) (h1 : n ≤ 32) (h2 : b < 2 ^ n) (h3 : k ≤ n) (w : World) :
    Calls Try.prog 9 #[(.agg #[.int .i64 ((n : Int)), .int .u64 ((b : Int))]), .int .i64 (k : Int)] w fun e w' => e = .returned (.tuple #[(.agg #[.int .i64 ((k : Int)), .int .u64 ((pre n b k : Nat))]), .int .i64 0]) ∧ Below w.heap.size w w' := by
  have hp := p32 n h1
  have h := rPrefix_any (n : Int) b k (by omega) (by omega) w
  have e : hcS (n : Int) b k = 0 := (if_pos (rt_of n b h1 h2)).trans (if_pos ⟨by omega, by omega⟩)
  rw [e, sel_zero rfl, sel_zero rfl] at h
  simp only [Int.toNat_natCast] at h
  exact h

set_option maxHeartbeats 8000000 in
set_option maxRecDepth 100000 in
theorem vecOrder_yes (n b m c k d : Nat) (h1 : n ≤ 32) (h2 : b < 2 ^ n) (h3 : m ≤ 32) (h4 : c < 2 ^ m) (h5 : k ≤ 32) (h6 : d < 2 ^ k) (w : World) :
    Calls Try.prog 3 #[(.agg #[.int .i64 ((n : Int)), .int .u64 ((b : Int))]), (.agg #[.int .i64 ((m : Int)), .int .u64 ((c : Int))]), (.agg #[.int .i64 ((k : Int)), .int .u64 ((d : Int))])] w fun e w' => e = .returned (.bool true) ∧ Below w.heap.size w w' := by
  obtain ⟨p, hp⟩ : ∃ p, p = cmn (bl n b) (bl m c) := ⟨_, rfl⟩
  obtain ⟨f1, f2, f3, f4, f5, f6, f7, f8⟩ := order_facts n b m c k d h1 h2 h3 h4 h5 h6 p hp
  have q1 := rt_of n b h1 h2
  have q2 := rt_of m c h3 h4
  have q3 := rt_of k d h5 h6
  have CA := hide (compare_yes n b m c h1 h2 h3 h4)
  have CB := hide (compare_yes m c n b h3 h4 h1 h2)
  have CC := hide (compare_yes m c k d h3 h4 h5 h6)
  have CD := hide (compare_yes n b k d h1 h2 h5 h6)
  have CM := hide (common_yes n b m c h1 h2 h3 h4)
  rw [← hp] at CM
  have CP := hide (prefix_yes n b p h1 h2 f7)
  have hlt := pre_lt n b p h2 f7
  rw [f1] at CB
  clear hp f1
  generalize cmpN n b m c = A at *
  generalize cmpN m c k d = C at *
  generalize cmpN n b k d = D at *
  generalize pre n b p = x at *
  have F2 := hide f2
  have F3 := hide f3
  have F8 := hide f8
  obtain ⟨a1, a2⟩ := f4
  obtain ⟨c1, c2⟩ := f5
  obtain ⟨d1, d2⟩ := f6
  clear f2 f3 f8 h2 h4 h6 hlt
  go_enter Try.func3, Try.ntmps3
  go_wp2_with fail
  refine (rright_any _ _ _).mono ?_; rintro e w1 ⟨rfl, hb1⟩
  have I0 := hide ((((Is2.new w (.int .i64 (n : Int)) (.int .u64 (b : Int))).alloc (.cells #[.int .i64 (m : Int), .int .u64 (c : Int)] 24)).alloc (.cells #[.int .i64 (k : Int), .int .u64 (d : Int)] 24)).below hb1)
  have i1 := (((Is2.new (w.alloc (.cells #[.int .i64 (n : Int), .int .u64 (b : Int)] 24)) (.int .i64 (m : Int)) (.int .u64 (c : Int))).alloc (.cells #[.int .i64 (k : Int), .int .u64 (d : Int)] 24)).below hb1)
  rw [World.size_alloc] at i1
  have I1 := hide i1
  have i2 := ((Is2.new ((w.alloc (.cells #[.int .i64 (n : Int), .int .u64 (b : Int)] 24)).alloc (.cells #[.int .i64 (m : Int), .int .u64 (c : Int)] 24)) (.int .i64 (k : Int)) (.int .u64 (d : Int))).below hb1)
  rw [World.size_alloc, World.size_alloc] at i2
  have I2 := hide i2
  have HB := hide (bx ((bx2 hb1).mono (by simp)))
  clear i1 i2 hb1
  obtain ⟨a0', a1', -, -⟩ := I0.out.c
  obtain ⟨b0', b1', -, -⟩ := I1.out.c
  obtain ⟨c0', c1', -, -⟩ := I2.out.c
  go_wp2_with fail
  refine (rright_any _ _ _).mono ?_; rintro e w2 ⟨rfl, hbx⟩
  replace I0 := hide (I0.out.below hbx)
  replace I1 := hide (I1.out.below hbx)
  replace I2 := hide (I2.out.below hbx)
  replace HB := hide (bstep HB.out hbx)
  clear hbx a0' a1' b0' b1' c0' c1'
  obtain ⟨a0', a1', -, -⟩ := I0.out.c
  obtain ⟨b0', b1', -, -⟩ := I1.out.c
  obtain ⟨c0', c1', -, -⟩ := I2.out.c
  go_wp2_with fail
  refine (rright_any _ _ _).mono ?_; rintro e w3 ⟨rfl, hbx⟩
  replace I0 := hide (I0.out.below hbx)
  replace I1 := hide (I1.out.below hbx)
  replace I2 := hide (I2.out.below hbx)
  replace HB := hide (bstep HB.out hbx)
  clear hbx a0' a1' b0' b1' c0' c1'
  obtain ⟨a0', a1', -, -⟩ := I0.out.c
  obtain ⟨b0', b1', -, -⟩ := I1.out.c
  obtain ⟨c0', c1', -, -⟩ := I2.out.c
  go_wp2_with fail
  refine (CA.out _).mono ?_; rintro e w4 ⟨rfl, hbx⟩
  replace I0 := hide (I0.out.below hbx)
  replace I1 := hide (I1.out.below hbx)
  replace I2 := hide (I2.out.below hbx)
  replace HB := hide (bstep HB.out hbx)
  clear hbx a0' a1' b0' b1' c0' c1'
  obtain ⟨a0', a1', -, -⟩ := I0.out.c
  obtain ⟨b0', b1', -, -⟩ := I1.out.c
  obtain ⟨c0', c1', -, -⟩ := I2.out.c
  go_wp2_with fail
  refine (CB.out _).mono ?_; rintro e w5 ⟨rfl, hbx⟩
  replace I0 := hide (I0.out.below hbx)
  replace I1 := hide (I1.out.below hbx)
  replace I2 := hide (I2.out.below hbx)
  replace HB := hide (bstep HB.out hbx)
  clear hbx a0' a1' b0' b1' c0' c1'
  obtain ⟨a0', a1', -, -⟩ := I0.out.c
  obtain ⟨b0', b1', -, -⟩ := I1.out.c
  obtain ⟨c0', c1', -, -⟩ := I2.out.c
  go_wp2_with fail
  refine (CC.out _).mono ?_; rintro e w6 ⟨rfl, hbx⟩
  replace I0 := hide (I0.out.below hbx)
  replace I1 := hide (I1.out.below hbx)
  replace I2 := hide (I2.out.below hbx)
  replace HB := hide (bstep HB.out hbx)
  clear hbx a0' a1' b0' b1' c0' c1'
  obtain ⟨a0', a1', -, -⟩ := I0.out.c
  obtain ⟨b0', b1', -, -⟩ := I1.out.c
  obtain ⟨c0', c1', -, -⟩ := I2.out.c
  go_wp2_with fail
  refine (CD.out _).mono ?_; rintro e w7 ⟨rfl, hbx⟩
  replace I0 := hide (I0.out.below hbx)
  replace I1 := hide (I1.out.below hbx)
  replace I2 := hide (I2.out.below hbx)
  replace HB := hide (bstep HB.out hbx)
  clear hbx a0' a1' b0' b1' c0' c1'
  obtain ⟨a0', a1', -, -⟩ := I0.out.c
  obtain ⟨b0', b1', -, -⟩ := I1.out.c
  obtain ⟨c0', c1', -, -⟩ := I2.out.c
  have z2 := I2.out.lt
  have TAIL : Hid (∀ g1 g2 : Bool, bgS (k : Int) d p x = g1 → bgS (p : Int) x k d = g2 → (g1 = false → g2 = false → (D == C) = true ∧ (D != 0) = true)) := by
    intro g1 g2 e1 e2 h1 h2
    have h := F8.out (e1.trans h1) (e2.trans h2)
    refine ⟨by simp [h.1], ?_⟩
    rw [bne_iff_ne]; exact h.2
  have CASES : (A = 0 ∧ n = m ∧ b = c ∧ C ≤ 0 ∧ D ≤ 0) ∨ (A = 0 ∧ n = m ∧ b = c ∧ C = 1) ∨ (A = 1 ∧ ¬ (n = m ∧ b = c)) ∨ (A = -1 ∧ ¬ (n = m ∧ b = c) ∧ C ≤ 0 ∧ D ≤ 0) ∨ (A = -1 ∧ ¬ (n = m ∧ b = c) ∧ C = 1) := by
    have h2 := F2.out
    have h3 := F3.out
    by_cases hA : A = 0
    · obtain ⟨e1, e2⟩ := h2.1 hA
      by_cases hC : C ≤ 0
      · exact Or.inl ⟨hA, e1, e2, hC, h3 (by omega) hC⟩
      · exact Or.inr (Or.inl ⟨hA, e1, e2, by omega⟩)
    · have hne : ¬ (n = m ∧ b = c) := fun h => hA (h2.2 h)
      by_cases hA1 : A = 1
      · exact Or.inr (Or.inr (Or.inl ⟨hA1, hne⟩))
      · have hA2 : A = -1 := by omega
        by_cases hC : C ≤ 0
        · exact Or.inr (Or.inr (Or.inr (Or.inl ⟨hA2, hne, hC, h3 (by omega) hC⟩)))
        · exact Or.inr (Or.inr (Or.inr (Or.inr ⟨hA2, hne, by omega⟩)))
  clear F2 F3 F8
  rcases CASES with ⟨e0, rfl, rfl, e3, e4⟩ | ⟨e0, rfl, rfl, e3⟩ | ⟨e0, hne⟩ | ⟨e0, hne, e3, e4⟩ | ⟨e0, hne, e3⟩
  · subst e0
    have s1 : C ≤ 0 := e3
    have s2 : ¬ 0 < D := by omega
    go_wp2_with fail
    refine (CM.out _).mono ?_; rintro e w8 ⟨rfl, hbx⟩
    replace I0 := hide (I0.out.below hbx)
    replace I1 := hide (I1.out.below hbx)
    replace I2 := hide (I2.out.below hbx)
    replace HB := hide (bstep HB.out hbx)
    clear hbx a0' a1' b0' b1' c0' c1'
    obtain ⟨a0', a1', -, -⟩ := I0.out.c
    obtain ⟨b0', b1', -, -⟩ := I1.out.c
    obtain ⟨c0', c1', -, -⟩ := I2.out.c
    go_wp2_with fail
    refine (CP.out _).mono ?_; rintro e w9 ⟨rfl, hbx⟩
    replace I0 := hide (I0.out.below hbx)
    replace I1 := hide (I1.out.below hbx)
    replace I2 := hide (I2.out.below hbx)
    replace HB := hide (bstep HB.out hbx)
    clear hbx a0' a1' b0' b1' c0' c1'
    obtain ⟨a0', a1', -, -⟩ := I0.out.c
    obtain ⟨b0', b1', -, -⟩ := I1.out.c
    obtain ⟨c0', c1', -, -⟩ := I2.out.c
    clear z2
    have z2 := I2.out.lt
    go_wp2_with fail
    cases hg1 : bgS (k : Int) d p x with
    | true =>
      refine (vBegins_any _ _ _ _ (by omega) (by omega) _).mono ?_; rintro e w10 ⟨rfl, hbx⟩
      rw [hg1]
      replace HB := hide (bstep HB.out (bx hbx))
      clear hbx
      go_wp2_with fail
      refine (alive_any _).mono ?_; rintro e w11 ⟨rfl, hby⟩
      go_wp2
      go_ret
      exact ⟨rfl, bstep HB.out hby⟩
    | false =>
      refine (vBegins_any _ _ _ _ (by omega) (by omega) _).mono ?_; rintro e w10 ⟨rfl, hbx⟩
      rw [hg1]
      have I3 := hide ((Is2.new w9 (.int .i64 (p : Int)) (.int .u64 (x : Int))).below hbx)
      replace I2 := hide ((I2.out.alloc _).below hbx)
      replace HB := hide (bstep HB.out (bx hbx))
      clear hbx a0' a1' b0' b1' c0' c1' I0 I1 z2
      obtain ⟨c0', c1', -, -⟩ := I2.out.c
      obtain ⟨d0', d1', -, -⟩ := I3.out.c
      go_wp2_with fail
      cases hg2 : bgS (p : Int) x k d with
      | true =>
        refine (vBegins_any _ _ _ _ (by omega) (by omega) _).mono ?_; rintro e w11 ⟨rfl, hbx⟩
        rw [hg2]
        replace HB := hide (bstep HB.out hbx)
        clear hbx
        go_wp2_with fail
        refine (alive_any _).mono ?_; rintro e w12 ⟨rfl, hby⟩
        go_wp2
        go_ret
        exact ⟨rfl, bstep HB.out hby⟩
      | false =>
        obtain ⟨t1, t2⟩ := TAIL.out false false hg1 hg2 rfl rfl
        refine (vBegins_any _ _ _ _ (by omega) (by omega) _).mono ?_; rintro e w11 ⟨rfl, hbx⟩
        rw [hg2]
        replace HB := hide (bstep HB.out hbx)
        clear hbx
        go_wp2_with fail
        refine (alive_any _).mono ?_; rintro e w12 ⟨rfl, hby⟩
        go_wp2
        go_ret
        exact ⟨rfl, bstep HB.out hby⟩
  · subst e0
    have s1 : ¬ C ≤ 0 := by omega
    clear e3
    go_wp2_with fail
    refine (CM.out _).mono ?_; rintro e w8 ⟨rfl, hbx⟩
    replace I0 := hide (I0.out.below hbx)
    replace I1 := hide (I1.out.below hbx)
    replace I2 := hide (I2.out.below hbx)
    replace HB := hide (bstep HB.out hbx)
    clear hbx a0' a1' b0' b1' c0' c1'
    obtain ⟨a0', a1', -, -⟩ := I0.out.c
    obtain ⟨b0', b1', -, -⟩ := I1.out.c
    obtain ⟨c0', c1', -, -⟩ := I2.out.c
    go_wp2_with fail
    refine (CP.out _).mono ?_; rintro e w9 ⟨rfl, hbx⟩
    replace I0 := hide (I0.out.below hbx)
    replace I1 := hide (I1.out.below hbx)
    replace I2 := hide (I2.out.below hbx)
    replace HB := hide (bstep HB.out hbx)
    clear hbx a0' a1' b0' b1' c0' c1'
    obtain ⟨a0', a1', -, -⟩ := I0.out.c
    obtain ⟨b0', b1', -, -⟩ := I1.out.c
    obtain ⟨c0', c1', -, -⟩ := I2.out.c
    clear z2
    have z2 := I2.out.lt
    go_wp2_with fail
    cases hg1 : bgS (k : Int) d p x with
    | true =>
      refine (vBegins_any _ _ _ _ (by omega) (by omega) _).mono ?_; rintro e w10 ⟨rfl, hbx⟩
      rw [hg1]
      replace HB := hide (bstep HB.out (bx hbx))
      clear hbx
      go_wp2_with fail
      refine (alive_any _).mono ?_; rintro e w11 ⟨rfl, hby⟩
      go_wp2
      go_ret
      exact ⟨rfl, bstep HB.out hby⟩
    | false =>
      refine (vBegins_any _ _ _ _ (by omega) (by omega) _).mono ?_; rintro e w10 ⟨rfl, hbx⟩
      rw [hg1]
      have I3 := hide ((Is2.new w9 (.int .i64 (p : Int)) (.int .u64 (x : Int))).below hbx)
      replace I2 := hide ((I2.out.alloc _).below hbx)
      replace HB := hide (bstep HB.out (bx hbx))
      clear hbx a0' a1' b0' b1' c0' c1' I0 I1 z2
      obtain ⟨c0', c1', -, -⟩ := I2.out.c
      obtain ⟨d0', d1', -, -⟩ := I3.out.c
      go_wp2_with fail
      cases hg2 : bgS (p : Int) x k d with
      | true =>
        refine (vBegins_any _ _ _ _ (by omega) (by omega) _).mono ?_; rintro e w11 ⟨rfl, hbx⟩
        rw [hg2]
        replace HB := hide (bstep HB.out hbx)
        clear hbx
        go_wp2_with fail
        refine (alive_any _).mono ?_; rintro e w12 ⟨rfl, hby⟩
        go_wp2
        go_ret
        exact ⟨rfl, bstep HB.out hby⟩
      | false =>
        obtain ⟨t1, t2⟩ := TAIL.out false false hg1 hg2 rfl rfl
        refine (vBegins_any _ _ _ _ (by omega) (by omega) _).mono ?_; rintro e w11 ⟨rfl, hbx⟩
        rw [hg2]
        replace HB := hide (bstep HB.out hbx)
        clear hbx
        go_wp2_with fail
        refine (alive_any _).mono ?_; rintro e w12 ⟨rfl, hby⟩
        go_wp2
        go_ret
        exact ⟨rfl, bstep HB.out hby⟩
  · subst e0
    have s0 : (1 : Int) = 1 := rfl
    clear s0
    by_cases en : n = m
    · have e1 : ((n : Int) == m) = true := by simp; omega
      have e2 : ((b : Int) == c) = false := by simp; omega
      clear en hne
      go_wp2_with fail
      refine (CM.out _).mono ?_; rintro e w8 ⟨rfl, hbx⟩
      replace I0 := hide (I0.out.below hbx)
      replace I1 := hide (I1.out.below hbx)
      replace I2 := hide (I2.out.below hbx)
      replace HB := hide (bstep HB.out hbx)
      clear hbx a0' a1' b0' b1' c0' c1'
      obtain ⟨a0', a1', -, -⟩ := I0.out.c
      obtain ⟨b0', b1', -, -⟩ := I1.out.c
      obtain ⟨c0', c1', -, -⟩ := I2.out.c
      go_wp2_with fail
      refine (CP.out _).mono ?_; rintro e w9 ⟨rfl, hbx⟩
      replace I0 := hide (I0.out.below hbx)
      replace I1 := hide (I1.out.below hbx)
      replace I2 := hide (I2.out.below hbx)
      replace HB := hide (bstep HB.out hbx)
      clear hbx a0' a1' b0' b1' c0' c1'
      obtain ⟨a0', a1', -, -⟩ := I0.out.c
      obtain ⟨b0', b1', -, -⟩ := I1.out.c
      obtain ⟨c0', c1', -, -⟩ := I2.out.c
      clear z2
      have z2 := I2.out.lt
      go_wp2_with fail
      cases hg1 : bgS (k : Int) d p x with
      | true =>
        refine (vBegins_any _ _ _ _ (by omega) (by omega) _).mono ?_; rintro e w10 ⟨rfl, hbx⟩
        rw [hg1]
        replace HB := hide (bstep HB.out (bx hbx))
        clear hbx
        go_wp2_with fail
        refine (alive_any _).mono ?_; rintro e w11 ⟨rfl, hby⟩
        go_wp2
        go_ret
        exact ⟨rfl, bstep HB.out hby⟩
      | false =>
        refine (vBegins_any _ _ _ _ (by omega) (by omega) _).mono ?_; rintro e w10 ⟨rfl, hbx⟩
        rw [hg1]
        have I3 := hide ((Is2.new w9 (.int .i64 (p : Int)) (.int .u64 (x : Int))).below hbx)
        replace I2 := hide ((I2.out.alloc _).below hbx)
        replace HB := hide (bstep HB.out (bx hbx))
        clear hbx a0' a1' b0' b1' c0' c1' I0 I1 z2
        obtain ⟨c0', c1', -, -⟩ := I2.out.c
        obtain ⟨d0', d1', -, -⟩ := I3.out.c
        go_wp2_with fail
        cases hg2 : bgS (p : Int) x k d with
        | true =>
          refine (vBegins_any _ _ _ _ (by omega) (by omega) _).mono ?_; rintro e w11 ⟨rfl, hbx⟩
          rw [hg2]
          replace HB := hide (bstep HB.out hbx)
          clear hbx
          go_wp2_with fail
          refine (alive_any _).mono ?_; rintro e w12 ⟨rfl, hby⟩
          go_wp2
          go_ret
          exact ⟨rfl, bstep HB.out hby⟩
        | false =>
          obtain ⟨t1, t2⟩ := TAIL.out false false hg1 hg2 rfl rfl
          refine (vBegins_any _ _ _ _ (by omega) (by omega) _).mono ?_; rintro e w11 ⟨rfl, hbx⟩
          rw [hg2]
          replace HB := hide (bstep HB.out hbx)
          clear hbx
          go_wp2_with fail
          refine (alive_any _).mono ?_; rintro e w12 ⟨rfl, hby⟩
          go_wp2
          go_ret
          exact ⟨rfl, bstep HB.out hby⟩
    · have e1 : ((n : Int) == m) = false := by simp; omega
      clear en hne
      go_wp2_with fail
      refine (CM.out _).mono ?_; rintro e w8 ⟨rfl, hbx⟩
      replace I0 := hide (I0.out.below hbx)
      replace I1 := hide (I1.out.below hbx)
      replace I2 := hide (I2.out.below hbx)
      replace HB := hide (bstep HB.out hbx)
      clear hbx a0' a1' b0' b1' c0' c1'
      obtain ⟨a0', a1', -, -⟩ := I0.out.c
      obtain ⟨b0', b1', -, -⟩ := I1.out.c
      obtain ⟨c0', c1', -, -⟩ := I2.out.c
      go_wp2_with fail
      refine (CP.out _).mono ?_; rintro e w9 ⟨rfl, hbx⟩
      replace I0 := hide (I0.out.below hbx)
      replace I1 := hide (I1.out.below hbx)
      replace I2 := hide (I2.out.below hbx)
      replace HB := hide (bstep HB.out hbx)
      clear hbx a0' a1' b0' b1' c0' c1'
      obtain ⟨a0', a1', -, -⟩ := I0.out.c
      obtain ⟨b0', b1', -, -⟩ := I1.out.c
      obtain ⟨c0', c1', -, -⟩ := I2.out.c
      clear z2
      have z2 := I2.out.lt
      go_wp2_with fail
      cases hg1 : bgS (k : Int) d p x with
      | true =>
        refine (vBegins_any _ _ _ _ (by omega) (by omega) _).mono ?_; rintro e w10 ⟨rfl, hbx⟩
        rw [hg1]
        replace HB := hide (bstep HB.out (bx hbx))
        clear hbx
        go_wp2_with fail
        refine (alive_any _).mono ?_; rintro e w11 ⟨rfl, hby⟩
        go_wp2
        go_ret
        exact ⟨rfl, bstep HB.out hby⟩
      | false =>
        refine (vBegins_any _ _ _ _ (by omega) (by omega) _).mono ?_; rintro e w10 ⟨rfl, hbx⟩
        rw [hg1]
        have I3 := hide ((Is2.new w9 (.int .i64 (p : Int)) (.int .u64 (x : Int))).below hbx)
        replace I2 := hide ((I2.out.alloc _).below hbx)
        replace HB := hide (bstep HB.out (bx hbx))
        clear hbx a0' a1' b0' b1' c0' c1' I0 I1 z2
        obtain ⟨c0', c1', -, -⟩ := I2.out.c
        obtain ⟨d0', d1', -, -⟩ := I3.out.c
        go_wp2_with fail
        cases hg2 : bgS (p : Int) x k d with
        | true =>
          refine (vBegins_any _ _ _ _ (by omega) (by omega) _).mono ?_; rintro e w11 ⟨rfl, hbx⟩
          rw [hg2]
          replace HB := hide (bstep HB.out hbx)
          clear hbx
          go_wp2_with fail
          refine (alive_any _).mono ?_; rintro e w12 ⟨rfl, hby⟩
          go_wp2
          go_ret
          exact ⟨rfl, bstep HB.out hby⟩
        | false =>
          obtain ⟨t1, t2⟩ := TAIL.out false false hg1 hg2 rfl rfl
          refine (vBegins_any _ _ _ _ (by omega) (by omega) _).mono ?_; rintro e w11 ⟨rfl, hbx⟩
          rw [hg2]
          replace HB := hide (bstep HB.out hbx)
          clear hbx
          go_wp2_with fail
          refine (alive_any _).mono ?_; rintro e w12 ⟨rfl, hby⟩
          go_wp2
          go_ret
          exact ⟨rfl, bstep HB.out hby⟩
  · subst e0
    have s1 : C ≤ 0 := e3
    have s2 : ¬ 0 < D := by omega
    by_cases en : n = m
    · have e1 : ((n : Int) == m) = true := by simp; omega
      have e2 : ((b : Int) == c) = false := by simp; omega
      clear en hne
      go_wp2_with fail
      refine (CM.out _).mono ?_; rintro e w8 ⟨rfl, hbx⟩
      replace I0 := hide (I0.out.below hbx)
      replace I1 := hide (I1.out.below hbx)
      replace I2 := hide (I2.out.below hbx)
      replace HB := hide (bstep HB.out hbx)
      clear hbx a0' a1' b0' b1' c0' c1'
      obtain ⟨a0', a1', -, -⟩ := I0.out.c
      obtain ⟨b0', b1', -, -⟩ := I1.out.c
      obtain ⟨c0', c1', -, -⟩ := I2.out.c
      go_wp2_with fail
      refine (CP.out _).mono ?_; rintro e w9 ⟨rfl, hbx⟩
      replace I0 := hide (I0.out.below hbx)
      replace I1 := hide (I1.out.below hbx)
      replace I2 := hide (I2.out.below hbx)
      replace HB := hide (bstep HB.out hbx)
      clear hbx a0' a1' b0' b1' c0' c1'
      obtain ⟨a0', a1', -, -⟩ := I0.out.c
      obtain ⟨b0', b1', -, -⟩ := I1.out.c
      obtain ⟨c0', c1', -, -⟩ := I2.out.c
      clear z2
      have z2 := I2.out.lt
      go_wp2_with fail
      cases hg1 : bgS (k : Int) d p x with
      | true =>
        refine (vBegins_any _ _ _ _ (by omega) (by omega) _).mono ?_; rintro e w10 ⟨rfl, hbx⟩
        rw [hg1]
        replace HB := hide (bstep HB.out (bx hbx))
        clear hbx
        go_wp2_with fail
        refine (alive_any _).mono ?_; rintro e w11 ⟨rfl, hby⟩
        go_wp2
        go_ret
        exact ⟨rfl, bstep HB.out hby⟩
      | false =>
        refine (vBegins_any _ _ _ _ (by omega) (by omega) _).mono ?_; rintro e w10 ⟨rfl, hbx⟩
        rw [hg1]
        have I3 := hide ((Is2.new w9 (.int .i64 (p : Int)) (.int .u64 (x : Int))).below hbx)
        replace I2 := hide ((I2.out.alloc _).below hbx)
        replace HB := hide (bstep HB.out (bx hbx))
        clear hbx a0' a1' b0' b1' c0' c1' I0 I1 z2
        obtain ⟨c0', c1', -, -⟩ := I2.out.c
        obtain ⟨d0', d1', -, -⟩ := I3.out.c
        go_wp2_with fail
        cases hg2 : bgS (p : Int) x k d with
        | true =>
          refine (vBegins_any _ _ _ _ (by omega) (by omega) _).mono ?_; rintro e w11 ⟨rfl, hbx⟩
          rw [hg2]
          replace HB := hide (bstep HB.out hbx)
          clear hbx
          go_wp2_with fail
          refine (alive_any _).mono ?_; rintro e w12 ⟨rfl, hby⟩
          go_wp2
          go_ret
          exact ⟨rfl, bstep HB.out hby⟩
        | false =>
          obtain ⟨t1, t2⟩ := TAIL.out false false hg1 hg2 rfl rfl
          refine (vBegins_any _ _ _ _ (by omega) (by omega) _).mono ?_; rintro e w11 ⟨rfl, hbx⟩
          rw [hg2]
          replace HB := hide (bstep HB.out hbx)
          clear hbx
          go_wp2_with fail
          refine (alive_any _).mono ?_; rintro e w12 ⟨rfl, hby⟩
          go_wp2
          go_ret
          exact ⟨rfl, bstep HB.out hby⟩
    · have e1 : ((n : Int) == m) = false := by simp; omega
      clear en hne
      go_wp2_with fail
      refine (CM.out _).mono ?_; rintro e w8 ⟨rfl, hbx⟩
      replace I0 := hide (I0.out.below hbx)
      replace I1 := hide (I1.out.below hbx)
      replace I2 := hide (I2.out.below hbx)
      replace HB := hide (bstep HB.out hbx)
      clear hbx a0' a1' b0' b1' c0' c1'
      obtain ⟨a0', a1', -, -⟩ := I0.out.c
      obtain ⟨b0', b1', -, -⟩ := I1.out.c
      obtain ⟨c0', c1', -, -⟩ := I2.out.c
      go_wp2_with fail
      refine (CP.out _).mono ?_; rintro e w9 ⟨rfl, hbx⟩
      replace I0 := hide (I0.out.below hbx)
      replace I1 := hide (I1.out.below hbx)
      replace I2 := hide (I2.out.below hbx)
      replace HB := hide (bstep HB.out hbx)
      clear hbx a0' a1' b0' b1' c0' c1'
      obtain ⟨a0', a1', -, -⟩ := I0.out.c
      obtain ⟨b0', b1', -, -⟩ := I1.out.c
      obtain ⟨c0', c1', -, -⟩ := I2.out.c
      clear z2
      have z2 := I2.out.lt
      go_wp2_with fail
      cases hg1 : bgS (k : Int) d p x with
      | true =>
        refine (vBegins_any _ _ _ _ (by omega) (by omega) _).mono ?_; rintro e w10 ⟨rfl, hbx⟩
        rw [hg1]
        replace HB := hide (bstep HB.out (bx hbx))
        clear hbx
        go_wp2_with fail
        refine (alive_any _).mono ?_; rintro e w11 ⟨rfl, hby⟩
        go_wp2
        go_ret
        exact ⟨rfl, bstep HB.out hby⟩
      | false =>
        refine (vBegins_any _ _ _ _ (by omega) (by omega) _).mono ?_; rintro e w10 ⟨rfl, hbx⟩
        rw [hg1]
        have I3 := hide ((Is2.new w9 (.int .i64 (p : Int)) (.int .u64 (x : Int))).below hbx)
        replace I2 := hide ((I2.out.alloc _).below hbx)
        replace HB := hide (bstep HB.out (bx hbx))
        clear hbx a0' a1' b0' b1' c0' c1' I0 I1 z2
        obtain ⟨c0', c1', -, -⟩ := I2.out.c
        obtain ⟨d0', d1', -, -⟩ := I3.out.c
        go_wp2_with fail
        cases hg2 : bgS (p : Int) x k d with
        | true =>
          refine (vBegins_any _ _ _ _ (by omega) (by omega) _).mono ?_; rintro e w11 ⟨rfl, hbx⟩
          rw [hg2]
          replace HB := hide (bstep HB.out hbx)
          clear hbx
          go_wp2_with fail
          refine (alive_any _).mono ?_; rintro e w12 ⟨rfl, hby⟩
          go_wp2
          go_ret
          exact ⟨rfl, bstep HB.out hby⟩
        | false =>
          obtain ⟨t1, t2⟩ := TAIL.out false false hg1 hg2 rfl rfl
          refine (vBegins_any _ _ _ _ (by omega) (by omega) _).mono ?_; rintro e w11 ⟨rfl, hbx⟩
          rw [hg2]
          replace HB := hide (bstep HB.out hbx)
          clear hbx
          go_wp2_with fail
          refine (alive_any _).mono ?_; rintro e w12 ⟨rfl, hby⟩
          go_wp2
          go_ret
          exact ⟨rfl, bstep HB.out hby⟩
  · subst e0
    have s1 : ¬ C ≤ 0 := by omega
    clear e3
    by_cases en : n = m
    · have e1 : ((n : Int) == m) = true := by simp; omega
      have e2 : ((b : Int) == c) = false := by simp; omega
      clear en hne
      go_wp2_with fail
      refine (CM.out _).mono ?_; rintro e w8 ⟨rfl, hbx⟩
      replace I0 := hide (I0.out.below hbx)
      replace I1 := hide (I1.out.below hbx)
      replace I2 := hide (I2.out.below hbx)
      replace HB := hide (bstep HB.out hbx)
      clear hbx a0' a1' b0' b1' c0' c1'
      obtain ⟨a0', a1', -, -⟩ := I0.out.c
      obtain ⟨b0', b1', -, -⟩ := I1.out.c
      obtain ⟨c0', c1', -, -⟩ := I2.out.c
      go_wp2_with fail
      refine (CP.out _).mono ?_; rintro e w9 ⟨rfl, hbx⟩
      replace I0 := hide (I0.out.below hbx)
      replace I1 := hide (I1.out.below hbx)
      replace I2 := hide (I2.out.below hbx)
      replace HB := hide (bstep HB.out hbx)
      clear hbx a0' a1' b0' b1' c0' c1'
      obtain ⟨a0', a1', -, -⟩ := I0.out.c
      obtain ⟨b0', b1', -, -⟩ := I1.out.c
      obtain ⟨c0', c1', -, -⟩ := I2.out.c
      clear z2
      have z2 := I2.out.lt
      go_wp2_with fail
      cases hg1 : bgS (k : Int) d p x with
      | true =>
        refine (vBegins_any _ _ _ _ (by omega) (by omega) _).mono ?_; rintro e w10 ⟨rfl, hbx⟩
        rw [hg1]
        replace HB := hide (bstep HB.out (bx hbx))
        clear hbx
        go_wp2_with fail
        refine (alive_any _).mono ?_; rintro e w11 ⟨rfl, hby⟩
        go_wp2
        go_ret
        exact ⟨rfl, bstep HB.out hby⟩
      | false =>
        refine (vBegins_any _ _ _ _ (by omega) (by omega) _).mono ?_; rintro e w10 ⟨rfl, hbx⟩
        rw [hg1]
        have I3 := hide ((Is2.new w9 (.int .i64 (p : Int)) (.int .u64 (x : Int))).below hbx)
        replace I2 := hide ((I2.out.alloc _).below hbx)
        replace HB := hide (bstep HB.out (bx hbx))
        clear hbx a0' a1' b0' b1' c0' c1' I0 I1 z2
        obtain ⟨c0', c1', -, -⟩ := I2.out.c
        obtain ⟨d0', d1', -, -⟩ := I3.out.c
        go_wp2_with fail
        cases hg2 : bgS (p : Int) x k d with
        | true =>
          refine (vBegins_any _ _ _ _ (by omega) (by omega) _).mono ?_; rintro e w11 ⟨rfl, hbx⟩
          rw [hg2]
          replace HB := hide (bstep HB.out hbx)
          clear hbx
          go_wp2_with fail
          refine (alive_any _).mono ?_; rintro e w12 ⟨rfl, hby⟩
          go_wp2
          go_ret
          exact ⟨rfl, bstep HB.out hby⟩
        | false =>
          obtain ⟨t1, t2⟩ := TAIL.out false false hg1 hg2 rfl rfl
          refine (vBegins_any _ _ _ _ (by omega) (by omega) _).mono ?_; rintro e w11 ⟨rfl, hbx⟩
          rw [hg2]
          replace HB := hide (bstep HB.out hbx)
          clear hbx
          go_wp2_with fail
          refine (alive_any _).mono ?_; rintro e w12 ⟨rfl, hby⟩
          go_wp2
          go_ret
          exact ⟨rfl, bstep HB.out hby⟩
    · have e1 : ((n : Int) == m) = false := by simp; omega
      clear en hne
      go_wp2_with fail
      refine (CM.out _).mono ?_; rintro e w8 ⟨rfl, hbx⟩
      replace I0 := hide (I0.out.below hbx)
      replace I1 := hide (I1.out.below hbx)
      replace I2 := hide (I2.out.below hbx)
      replace HB := hide (bstep HB.out hbx)
      clear hbx a0' a1' b0' b1' c0' c1'
      obtain ⟨a0', a1', -, -⟩ := I0.out.c
      obtain ⟨b0', b1', -, -⟩ := I1.out.c
      obtain ⟨c0', c1', -, -⟩ := I2.out.c
      go_wp2_with fail
      refine (CP.out _).mono ?_; rintro e w9 ⟨rfl, hbx⟩
      replace I0 := hide (I0.out.below hbx)
      replace I1 := hide (I1.out.below hbx)
      replace I2 := hide (I2.out.below hbx)
      replace HB := hide (bstep HB.out hbx)
      clear hbx a0' a1' b0' b1' c0' c1'
      obtain ⟨a0', a1', -, -⟩ := I0.out.c
      obtain ⟨b0', b1', -, -⟩ := I1.out.c
      obtain ⟨c0', c1', -, -⟩ := I2.out.c
      clear z2
      have z2 := I2.out.lt
      go_wp2_with fail
      cases hg1 : bgS (k : Int) d p x with
      | true =>
        refine (vBegins_any _ _ _ _ (by omega) (by omega) _).mono ?_; rintro e w10 ⟨rfl, hbx⟩
        rw [hg1]
        replace HB := hide (bstep HB.out (bx hbx))
        clear hbx
        go_wp2_with fail
        refine (alive_any _).mono ?_; rintro e w11 ⟨rfl, hby⟩
        go_wp2
        go_ret
        exact ⟨rfl, bstep HB.out hby⟩
      | false =>
        refine (vBegins_any _ _ _ _ (by omega) (by omega) _).mono ?_; rintro e w10 ⟨rfl, hbx⟩
        rw [hg1]
        have I3 := hide ((Is2.new w9 (.int .i64 (p : Int)) (.int .u64 (x : Int))).below hbx)
        replace I2 := hide ((I2.out.alloc _).below hbx)
        replace HB := hide (bstep HB.out (bx hbx))
        clear hbx a0' a1' b0' b1' c0' c1' I0 I1 z2
        obtain ⟨c0', c1', -, -⟩ := I2.out.c
        obtain ⟨d0', d1', -, -⟩ := I3.out.c
        go_wp2_with fail
        cases hg2 : bgS (p : Int) x k d with
        | true =>
          refine (vBegins_any _ _ _ _ (by omega) (by omega) _).mono ?_; rintro e w11 ⟨rfl, hbx⟩
          rw [hg2]
          replace HB := hide (bstep HB.out hbx)
          clear hbx
          go_wp2_with fail
          refine (alive_any _).mono ?_; rintro e w12 ⟨rfl, hby⟩
          go_wp2
          go_ret
          exact ⟨rfl, bstep HB.out hby⟩
        | false =>
          obtain ⟨t1, t2⟩ := TAIL.out false false hg1 hg2 rfl rfl
          refine (vBegins_any _ _ _ _ (by omega) (by omega) _).mono ?_; rintro e w11 ⟨rfl, hbx⟩
          rw [hg2]
          replace HB := hide (bstep HB.out hbx)
          clear hbx
          go_wp2_with fail
          refine (alive_any _).mono ?_; rintro e w12 ⟨rfl, hby⟩
          go_wp2
          go_ret
          exact ⟨rfl, bstep HB.out hby⟩

set_option maxHeartbeats 1000000 in
theorem vecOrder_any (n b m c k d : Int) (hb : 0 ≤ b) (_hb2 : b < 18446744073709551616) (hc : 0 ≤ c) (_hc2 : c < 18446744073709551616) (hd : 0 ≤ d) (_hd2 : d < 18446744073709551616) (w : World) :
    Calls Try.prog 3 #[(.agg #[.int .i64 (n), .int .u64 (b)]), (.agg #[.int .i64 (m), .int .u64 (c)]), (.agg #[.int .i64 (k), .int .u64 (d)])] w fun e w' => e = .returned (.bool true) ∧ Below w.heap.size w w' := by
  cases q1 : rt n b with
  | false =>
    go_enter Try.func3, Try.ntmps3
    go_wp2_with fail
    refine (rright_any _ _ _).mono ?_; rintro e w1 ⟨rfl, hb1⟩; obtain ⟨hc1, hf1⟩ := bcell hb1
    go_wp2_with fail
    refine (alive_any _).mono ?_; rintro e w2 ⟨rfl, hb2⟩
    go_wp2
    go_ret
    exact ⟨rfl, bstep (bx ((bx2 hb1).mono (by simp))) hb2⟩
  | true =>
    cases q2 : rt m c with
    | false =>
      go_enter Try.func3, Try.ntmps3
      go_wp2_with fail
      refine (rright_any _ _ _).mono ?_; rintro e w1 ⟨rfl, hb1⟩; obtain ⟨hc1, hf1⟩ := bcell hb1
      go_wp2_with fail
      refine (rright_any _ _ _).mono ?_; rintro e w2 ⟨rfl, hb2⟩
      go_wp2_with fail
      refine (alive_any _).mono ?_; rintro e w3 ⟨rfl, hb3⟩
      go_wp2
      go_ret
      exact ⟨rfl, bstep (bstep (bx ((bx2 hb1).mono (by simp))) hb2) hb3⟩
    | true =>
      cases q3 : rt k d with
      | false =>
        go_enter Try.func3, Try.ntmps3
        go_wp2_with fail
        refine (rright_any _ _ _).mono ?_; rintro e w1 ⟨rfl, hb1⟩; obtain ⟨hc1, hf1⟩ := bcell hb1
        have hz : w.heap.size + 1 + 1 < w1.heap.size := by have := hb1.size; simp at this; omega
        go_wp2_with fail
        refine (rright_any _ _ _).mono ?_; rintro e w2 ⟨rfl, hb2⟩; obtain ⟨hc2, hf2⟩ := bcell hb2
        go_wp2_with fail
        refine (rright_any _ _ _).mono ?_; rintro e w3 ⟨rfl, hb3⟩
        go_wp2_with fail
        refine (alive_any _).mono ?_; rintro e w4 ⟨rfl, hb4⟩
        go_wp2
        go_ret
        exact ⟨rfl, bstep (bstep (bstep (bx ((bx2 hb1).mono (by simp))) hb2) hb3) hb4⟩
      | true =>
        obtain ⟨n, b, rfl, rfl, h1, h2⟩ := rt_nat q1 hb
        obtain ⟨m, c, rfl, rfl, h3, h4⟩ := rt_nat q2 hc
        obtain ⟨k, d, rfl, rfl, h5, h6⟩ := rt_nat q3 hd
        exact vecOrder_yes n b m c k d h1 h2 h3 h4 h5 h6 w

end Go.Proofs.Ytdjlmmgnknfkfab
