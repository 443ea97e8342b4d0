/- Package key: Next, Prev, In; the document's Check, Compare, Less, Next, Prev, In. -/
import Derived.Test.YtidgkaephikjaaaDoorD
namespace Go.Proofs.YtidgkaephikjaaaDoor
open Go.RowKit

theorem ck_cases (r n : Int) : ckE r n = 20 ∧ ¬ (r = 2 ∨ (r = 1 ∨ r = 3) ∧ n = 0) ∨ ckE r n = 0 ∧ (r = 2 ∨ r = 1 ∧ n = 0 ∨ r = 3 ∧ n = 0) := by
  unfold ckE
  by_cases h : r = 2 ∨ (r = 1 ∨ r = 3) ∧ n = 0
  · rw [if_pos h]; exact Or.inr ⟨rfl, by omega⟩
  · rw [if_neg h]; exact Or.inl ⟨rfl, h⟩

set_option maxHeartbeats 1000000 in
theorem rCheck_any (r n : Int) (w : World) :
    Calls Tryd.prog 10 #[(.agg #[.int .i64 (r), .int .u64 (n)])] w fun e w' => e = .returned (.int .i64 (ckE r n)) ∧ Gr w w' := by
  have fin : Gr w (w.alloc (.cells #[.int .i64 r, .int .u64 n] 25)) := (Gr.refl w).alloc _
  have HF := hide fin
  clear fin
  by_cases h2 : r = 2
  · subst h2
    go_enter Tryd.func10, Tryd.ntmps10
    go_wp2
    go_ret
    exact ⟨rfl, HF.out⟩
  · have h2' : (r == 2) = false := by simp [h2]
    by_cases h1 : r = 1
    · subst h1
      by_cases hn : n = 0
      · subst hn
        go_enter Tryd.func10, Tryd.ntmps10
        go_wp2
        go_ret
        exact ⟨rfl, HF.out⟩
      · have hn' : (n == 0) = false := by simp [hn]
        have hc : ckE 1 n = 20 := by unfold ckE; rw [if_neg (by omega)]
        rw [hc]
        go_enter Tryd.func10, Tryd.ntmps10
        go_wp2
        go_ret
        exact ⟨rfl, HF.out⟩
    · have h1' : (r == 1) = false := by simp [h1]
      by_cases h3 : r = 3
      · subst h3
        by_cases hn : n = 0
        · subst hn
          go_enter Tryd.func10, Tryd.ntmps10
          go_wp2
          go_ret
          exact ⟨rfl, HF.out⟩
        · have hn' : (n == 0) = false := by simp [hn]
          have hc : ckE 3 n = 20 := by unfold ckE; rw [if_neg (by omega)]
          rw [hc]
          go_enter Tryd.func10, Tryd.ntmps10
          go_wp2
          go_ret
          exact ⟨rfl, HF.out⟩
      · have h3' : (r == 3) = false := by simp [h3]
        have hc : ckE r n = 20 := by unfold ckE; rw [if_neg (by omega)]
        rw [hc]
        go_enter Tryd.func10, Tryd.ntmps10
        go_wp2
        go_ret
        exact ⟨rfl, HF.out⟩

theorem kcmp_lt {r n s m : Int} (h : r < s ∨ r = s ∧ n < m) : kcmp (r, n) (s, m) = -1 := by
  unfold kcmp
  show orI (cmpI r s) (cmpI n m) = -1
  rcases h with h | ⟨h, h2⟩
  · rw [cmpI_lt h, orI_nz _ (by omega)]
  · rw [cmpI_eq h, orI_z _ rfl, cmpI_lt h2]
theorem kcmp_eq (r n : Int) : kcmp (r, n) (r, n) = 0 := by
  unfold kcmp
  show orI (cmpI r r) (cmpI n n) = 0
  rw [cmpI_eq rfl, orI_z _ rfl, cmpI_eq rfl]
theorem kcmp_gt {r n s m : Int} (h : s < r ∨ r = s ∧ m < n) : kcmp (r, n) (s, m) = 1 := by
  unfold kcmp
  show orI (cmpI r s) (cmpI n m) = 1
  rcases h with h | ⟨h, h2⟩
  · rw [cmpI_gt h, orI_nz _ (by omega)]
  · rw [cmpI_eq h, orI_z _ rfl, cmpI_gt h2]

set_option maxHeartbeats 2000000 in
theorem rCompare_any (r n s m : Int) (w : World) :
    Calls Tryd.prog 12 #[(.agg #[.int .i64 (r), .int .u64 (n)]), (.agg #[.int .i64 (s), .int .u64 (m)])] w fun e w' => e = .returned (.int .i64 (kcmp (r, n) (s, m))) ∧ Gr w w' := by
  have fin : Gr w ((w.alloc (.cells #[.int .i64 r, .int .u64 n] 25)).alloc (.cells #[.int .i64 s, .int .u64 m] 25)) := ((Gr.refl w).alloc _).alloc _
  have HF := hide fin
  clear fin
  rcases Int.lt_trichotomy r s with h | h | h
  · rw [kcmp_lt (Or.inl h)]
    go_enter Tryd.func12, Tryd.ntmps12
    go_wp2
    go_ret
    exact ⟨rfl, HF.out⟩
  · subst h
    rcases Int.lt_trichotomy n m with h | h | h
    · rw [kcmp_lt (Or.inr ⟨rfl, h⟩)]
      go_enter Tryd.func12, Tryd.ntmps12
      go_wp2
      go_ret
      exact ⟨rfl, HF.out⟩
    · subst h
      rw [kcmp_eq]
      go_enter Tryd.func12, Tryd.ntmps12
      go_wp2
      go_ret
      exact ⟨rfl, HF.out⟩
    · rw [kcmp_gt (Or.inr ⟨rfl, h⟩)]
      have h1 : ¬ n < m := by omega
      have h2 : (n == m) = false := by simp; omega
      have h3 : ¬ n = m := by omega
      go_enter Tryd.func12, Tryd.ntmps12
      go_wp2
      go_ret
      exact ⟨rfl, HF.out⟩
  · rw [kcmp_gt (Or.inl h)]
    have h1 : ¬ r < s := by omega
    have h2 : (r == s) = false := by simp; omega
    have h3 : ¬ r = s := by omega
    go_enter Tryd.func12, Tryd.ntmps12
    go_wp2
    go_ret
    exact ⟨rfl, HF.out⟩

set_option maxHeartbeats 1000000 in
theorem rLess_any (r n s m : Int) (w : World) :
    Calls Tryd.prog 14 #[(.agg #[.int .i64 (r), .int .u64 (n)]), (.agg #[.int .i64 (s), .int .u64 (m)])] w fun e w' => e = .returned (.bool (klt (r, n) (s, m))) ∧ Gr w w' := by
  go_enter Tryd.func14, Tryd.ntmps14
  go_wp2_with fail
  refine (rCompare_any r n s m _).mono ?_; rintro e w1 ⟨rfl, hg⟩
  go_wp2
  go_ret
  exact ⟨rfl, Gr.trans (by repeat (first | exact Gr.refl _ | apply Gr.alloc)) hg⟩

/-- What Next tells. -/
def nxE (r n : Int) : Int × Int × Bool := if ckE r n = 20 ∨ r = 3 then (0, 0, false) else if r = 1 then (2, 0, true) else if n = 18446744073709551615 then (3, 0, true) else (2, n + 1, true)
/-- What Prev tells. -/
def pvE (r n : Int) : Int × Int × Bool := if ckE r n = 20 ∨ r = 1 then (0, 0, false) else if r = 3 then (2, 18446744073709551615, true) else if n = 0 then (1, 0, true) else (2, n - 1, true)
def keyB (x : Int × Int × Bool) : Value := .tuple #[(.agg #[.int .i64 (x.1), .int .u64 (x.2.1)]), .bool x.2.2]

end Go.Proofs.YtidgkaephikjaaaDoor
