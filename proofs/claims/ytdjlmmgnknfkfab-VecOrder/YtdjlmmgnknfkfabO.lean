/- Walks: what two vectors have in common, which stands first, and whether one begins with the other, by the document's answer. -/
import Derived.Test.YtdjlmmgnknfkfabN
namespace Go.Proofs.Ytdjlmmgnknfkfab
open Go.RowKit
attribute [local go_sem ↓] Go.wp_at_zero Go.wp_at_succ

set_option maxHeartbeats 2000000 in
theorem rCommon_any (n b m c : Int) (hb : 0 ≤ b) (hc : 0 ≤ c) (w : World) :
    Calls Try.prog 8 #[(.agg #[.int .i64 (n), .int .u64 (b)]), (.agg #[.int .i64 (m), .int .u64 (c)])] w fun e w' => e = .returned (.tuple #[.int .i64 (cmE n b m c), .int .i64 (rbS n b m c)]) ∧ Below w.heap.size w w' := by
  by_cases h : rbS n b m c = 0
  · obtain ⟨q1, q2⟩ := rbS_zero.1 h
    obtain ⟨n, b, m, c, rfl, rfl, rfl, rfl, h1, h2, -, -, h5, h6⟩ := both_nat h hb hc
    unfold cmE
    rw [sel_zero h]
    simp only [Int.toNat_natCast]
    have HH := hide h
    clear hb hc h
    go_enter Try.func8, Try.ntmps8
    go_wp2_with fail
    refine (rright_any _ _ _).mono ?_; rintro e w1 ⟨rfl, hb1⟩
    have I0 := hide (((Is2.new w (.int .i64 (n : Int)) (.int .u64 (b : Int))).alloc (.cells #[.int .i64 (m : Int), .int .u64 (c : Int)] 24)).below hb1)
    have i1 := ((Is2.new (w.alloc (.cells #[.int .i64 (n : Int), .int .u64 (b : Int)] 24)) (.int .i64 (m : Int)) (.int .u64 (c : Int))).below hb1)
    rw [World.size_alloc] at i1
    have I1 := hide i1
    clear i1
    have HB := hide (bx2 hb1)
    clear hb1
    obtain ⟨a0, a1, -, -⟩ := I0.out.c
    obtain ⟨b0, b1, -, -⟩ := I1.out.c
    go_wp2_with fail
    refine (rright_any _ _ _).mono ?_; rintro e w2 ⟨rfl, hb3⟩
    replace I0 := hide (I0.out.below hb3)
    replace I1 := hide (I1.out.below hb3)
    replace HB := hide (bstep HB.out hb3)
    clear a0 a1 b0 b1 hb3
    obtain ⟨a0, a1, -, -⟩ := I0.out.c
    obtain ⟨b0, b1, -, -⟩ := I1.out.c
    have hz := I1.out.lt
    go_wp2
    go_region_held3 (fun w' => w'.cell? ⟨w.heap.size, 0, none⟩ = some (.int .i64 (n : Int)) ∧ w'.cell? ⟨w.heap.size, 1, none⟩ = some (.int .u64 (b : Int)) ∧ w'.cell? ⟨w.heap.size + 1, 0, none⟩ = some (.int .i64 (m : Int)) ∧ w'.cell? ⟨w.heap.size + 1, 1, none⟩ = some (.int .u64 (c : Int)) ∧ w.heap.size + 1 < w'.heap.size)
      (first | go_keep | (go_split_ands; refine ⟨?_, ?_, ?_, ?_, ?_⟩ <;> first | assumption | (rw [hbb.cell (by simp; omega)]; assumption) | (have := hbb.size; first | omega | (simp at this; omega))))
      (first
        | (go_at_call 23; refine (bits_any _ _ (by omega) (by omega) _).mono ?_; rintro e w' ⟨g, rfl, hg, hown, hbb⟩)
        | (go_at_call 22; refine (rcommon_any _ _ _ _ _ _ (bl n b) (bl m c) _ (bl_length _ _) (bl_length _ _) (by omega) (by omega) (by first | exact (row_of (by assumption)).2.1 | exact (row_of (ownsRow_below (by assumption) (by assumption))).2.1) (by first | exact (row_of (by assumption)).2.1 | exact (row_of (ownsRow_below (by assumption) (by assumption))).2.1)).mono ?_; rintro e w' ⟨rfl, hbb⟩))
    all_goals
      have hB : Below w2.heap.size w2 w' := bstep (bstep (bstep (Below.refl _ _).drew (by assumption)) (by assumption)) hbb
      replace HB := hide (bstep HB.out hB)
      clear hB hbb
      go_wp2
      go_ret2
      exact ⟨by rw [HH.out]; rfl, HB.out⟩
  · have h' := rbS_ne h
    unfold cmE
    rw [sel_ne h, h']
    cases q1 : rt n b with
    | false =>
      clear h h'
      go_enter Try.func8, Try.ntmps8
      go_wp2_with fail
      refine (rright_any _ _ _).mono ?_; rintro e w1 ⟨rfl, hb1⟩; obtain ⟨hc1, hf1⟩ := bcell hb1
      go_wp2
      go_ret2
      exact ⟨rfl, bx2 hb1⟩
    | true =>
      have q2 : rt m c = false := by
        cases q2 : rt m c with
        | false => rfl
        | true => exact absurd (rbS_zero.2 ⟨q1, q2⟩) h
      clear h h'
      go_enter Try.func8, Try.ntmps8
      go_wp2_with fail
      refine (rright_any _ _ _).mono ?_; rintro e w1 ⟨rfl, hb1⟩; obtain ⟨hc1, hf1⟩ := bcell hb1
      go_wp2_with fail
      refine (rright_any _ _ _).mono ?_; rintro e w2 ⟨rfl, hb3⟩
      go_wp2
      go_ret2
      exact ⟨rfl, bstep (bx2 hb1) hb3⟩

end Go.Proofs.Ytdjlmmgnknfkfab
