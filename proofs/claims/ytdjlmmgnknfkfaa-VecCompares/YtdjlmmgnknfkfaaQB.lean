/- Walks: whether one vector begins with another, by the document's answer. -/
import Derived.Test.YtdjlmmgnknfkfaaQ
namespace Go.Proofs.Ytdjlmmgnknfkfaa
open Go.RowKit

set_option maxHeartbeats 2000000 in
theorem rBegins_no (n b m c : Int) (h : rbS n b m c ≠ 0) (w : World) :
    Calls Try.prog 27 #[(.agg #[.int .i64 (n), .int .u64 (b)]), (.agg #[.int .i64 (m), .int .u64 (c)])] w fun e w' => e = .returned (.bool false) ∧ Below w.heap.size w w' := by
  cases q1 : rt n b with
  | false =>
    clear h
    go_enter Try.func27, Try.ntmps27
    go_wp2
    have I0 := hide ((Is2.new w (.int .i64 n) (.int .u64 b)).alloc (.cells #[.int .i64 m, .int .u64 c] 24))
    have i1 := (Is2.new (w.alloc (.cells #[.int .i64 n, .int .u64 b] 24)) (.int .i64 m) (.int .u64 c))
    rw [World.size_alloc] at i1
    have I1 := hide i1
    clear i1
    have HB := hide (((Below.refl w.heap.size w).alloc (Nat.le_refl _) (.cells #[.int .i64 n, .int .u64 b] 24)).alloc (by simp) (.cells #[.int .i64 m, .int .u64 c] 24))
    generalize (w.alloc (.cells #[.int .i64 n, .int .u64 b] 24)).alloc (.cells #[.int .i64 m, .int .u64 c] 24) = W at *
    obtain ⟨a0, a1, -, -⟩ := I0.out.c
    obtain ⟨b0, b1, -, -⟩ := I1.out.c
    have hz := I1.out.lt
    first
      | go_region_with (first
          | (go_at_call 18; refine (rright_any _ _ _).mono ?_; rintro e w' ⟨rfl, hbb⟩; have hx := (I0.out.below (bstep (Below.refl W.heap.size W).drew hbb)).c; have hy := (I1.out.below (bstep (Below.refl W.heap.size W).drew hbb)).c; have x0 := hx.1; have x1 := hx.2.1; have y0 := hy.1; have y1 := hy.2.1; clear hx hy)
          | (go_at_call 18; refine (rright_any _ _ _).mono ?_; rintro e w' ⟨rfl, hbb⟩))
      | fail
    all_goals
      have hB : Below W.heap.size W w' := bstep (Below.refl _ _).drew hbb
      replace HB := hide (bstep HB.out hB)
      clear hB hbb
      go_wp2
      go_ret
      exact ⟨rfl, HB.out⟩
  | true =>
    have q2 : rt m c = false := by
      cases q2 : rt m c with
      | false => rfl
      | true => exact absurd (rbS_zero.2 ⟨q1, q2⟩) h
    clear h
    go_enter Try.func27, Try.ntmps27
    go_wp2
    have I0 := hide ((Is2.new w (.int .i64 n) (.int .u64 b)).alloc (.cells #[.int .i64 m, .int .u64 c] 24))
    have i1 := (Is2.new (w.alloc (.cells #[.int .i64 n, .int .u64 b] 24)) (.int .i64 m) (.int .u64 c))
    rw [World.size_alloc] at i1
    have I1 := hide i1
    clear i1
    have HB := hide (((Below.refl w.heap.size w).alloc (Nat.le_refl _) (.cells #[.int .i64 n, .int .u64 b] 24)).alloc (by simp) (.cells #[.int .i64 m, .int .u64 c] 24))
    generalize (w.alloc (.cells #[.int .i64 n, .int .u64 b] 24)).alloc (.cells #[.int .i64 m, .int .u64 c] 24) = W at *
    obtain ⟨a0, a1, -, -⟩ := I0.out.c
    obtain ⟨b0, b1, -, -⟩ := I1.out.c
    have hz := I1.out.lt
    first
      | go_region_with (first
          | (go_at_call 18; refine (rright_any _ _ _).mono ?_; rintro e w' ⟨rfl, hbb⟩; have hx := (I0.out.below (bstep (Below.refl W.heap.size W).drew hbb)).c; have hy := (I1.out.below (bstep (Below.refl W.heap.size W).drew hbb)).c; have x0 := hx.1; have x1 := hx.2.1; have y0 := hy.1; have y1 := hy.2.1; clear hx hy)
          | (go_at_call 18; refine (rright_any _ _ _).mono ?_; rintro e w' ⟨rfl, hbb⟩))
      | fail
    all_goals
      have hB : Below W.heap.size W w' := bstep (bstep (Below.refl _ _).drew (by assumption)) hbb
      replace HB := hide (bstep HB.out hB)
      clear hB hbb
      go_wp2
      go_ret
      exact ⟨rfl, HB.out⟩


section
attribute [local go_sem ↓] Go.wp_at_zero Go.wp_at_succ
set_option maxHeartbeats 2000000 in
theorem rBegins_any (n b m c : Int) (hb : 0 ≤ b) (hc : 0 ≤ c) (w : World) :
    Calls Try.prog 27 #[(.agg #[.int .i64 (n), .int .u64 (b)]), (.agg #[.int .i64 (m), .int .u64 (c)])] w fun e w' => e = .returned (.bool (bgS n b m c)) ∧ Below w.heap.size w w' := by
  by_cases h : rbS n b m c = 0
  · obtain ⟨q1, q2⟩ := rbS_zero.1 h
    obtain ⟨n, b, m, c, rfl, rfl, rfl, rfl, h1, h2, h3, h4, h5, h6⟩ := both_nat h hb hc
    have E : bgS (n : Int) b m c = ((cmn (bl n b) (bl m c) : Nat) == (m : Int)) := by
      have := cmn_pre n b m c h3 h4
      unfold bgS
      rw [q1, q2]
      simp only [Bool.true_and, Int.toNat_natCast]
      rw [Bool.eq_iff_iff]
      simp only [Bool.and_eq_true, decide_eq_true_eq, beq_iff_eq]
      omega
    rw [E]
    clear hb hc h h3 h4 E
    go_enter Try.func27, Try.ntmps27
    go_wp2
    have I0 := hide ((Is2.new w (.int .i64 (n : Int)) (.int .u64 (b : Int))).alloc (.cells #[.int .i64 (m : Int), .int .u64 (c : Int)] 24))
    have i1 := (Is2.new (w.alloc (.cells #[.int .i64 (n : Int), .int .u64 (b : Int)] 24)) (.int .i64 (m : Int)) (.int .u64 (c : Int)))
    rw [World.size_alloc] at i1
    have I1 := hide i1
    clear i1
    have HB := hide (((Below.refl w.heap.size w).alloc (Nat.le_refl _) (.cells #[.int .i64 (n : Int), .int .u64 (b : Int)] 24)).alloc (by simp) (.cells #[.int .i64 (m : Int), .int .u64 (c : Int)] 24))
    generalize (w.alloc (.cells #[.int .i64 (n : Int), .int .u64 (b : Int)] 24)).alloc (.cells #[.int .i64 (m : Int), .int .u64 (c : Int)] 24) = W at *
    obtain ⟨a0, a1, -, -⟩ := I0.out.c
    obtain ⟨b0, b1, -, -⟩ := I1.out.c
    have hz := I1.out.lt
    go_region_held3 (fun w' => w'.cell? ⟨w.heap.size, 0, none⟩ = some (.int .i64 (n : Int)) ∧ w'.cell? ⟨w.heap.size, 1, none⟩ = some (.int .u64 (b : Int)) ∧ w'.cell? ⟨w.heap.size + 1, 0, none⟩ = some (.int .i64 (m : Int)) ∧ w'.cell? ⟨w.heap.size + 1, 1, none⟩ = some (.int .u64 (c : Int)) ∧ w.heap.size + 1 < w'.heap.size)
      (first | go_keep | (go_split_ands; refine ⟨?_, ?_, ?_, ?_, ?_⟩ <;> first | assumption | (rw [hbb.cell (by simp; omega)]; assumption) | (have := hbb.size; first | omega | (simp at this; omega))))
      (first
        | (go_at_call 18; refine (rright_any _ _ _).mono ?_; rintro e w' ⟨rfl, hbb⟩)
        | (go_at_call 41; refine (bits_any _ _ (by omega) (by omega) _).mono ?_; rintro e w' ⟨g, rfl, hg, hown, hbb⟩)
        | (go_at_call 49; refine (rcommon_any _ _ _ _ _ _ (bl n b) (bl m c) _ (bl_length _ _) (bl_length _ _) (by omega) (by omega) (by first | exact (row_of (by assumption)).2.1 | exact (row_of (ownsRow_below (by assumption) (by assumption))).2.1) (by first | exact (row_of (by assumption)).2.1 | exact (row_of (ownsRow_below (by assumption) (by assumption))).2.1)).mono ?_; rintro e w' ⟨rfl, hbb⟩))
    all_goals
      have hB : Below W.heap.size W w' := by
        first
          | exact bstep (bstep (bstep (bstep (bstep (Below.refl _ _).drew (by assumption)) (by assumption)) (by assumption)) (by assumption)) hbb
      replace HB := hide (bstep HB.out hB)
      clear hB hbb
      go_wp2
      go_ret
      exact ⟨rfl, HB.out⟩
  · have h' := h
    have e : bgS n b m c = false := by
      rw [rbS_zero] at h
      unfold bgS
      cases h1 : rt n b <;> cases h2 : rt m c <;> simp_all
    rw [e]
    exact rBegins_no n b m c h' w

end
end Go.Proofs.Ytdjlmmgnknfkfaa
