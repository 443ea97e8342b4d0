/- The walk of statement VecCompares: true at any two vectors. -/
import Derived.Test.YtdjlmmgnknfkfaaQB
namespace Go.Proofs.Ytdjlmmgnknfkfaa
open Go.RowKit
attribute [local go_sem ↓] Go.wp_at_zero Go.wp_at_succ

set_option maxHeartbeats 4000000 in
set_option maxRecDepth 100000 in
theorem vecCompares_any (n b m c : Int) (hb : 0 ≤ b) (_hb2 : b < 18446744073709551616) (hc : 0 ≤ c) (_hc2 : c < 18446744073709551616) (w : World) :
    Calls Try.prog 5 #[(.agg #[.int .i64 (n), .int .u64 (b)]), (.agg #[.int .i64 (m), .int .u64 (c)])] w fun e w' => e = .returned (.bool true) ∧ Below w.heap.size w w' := by
  obtain ⟨A, E, f1, f2⟩ : ∃ A E : Int, (∀ w, Calls Try.prog 22 #[(.agg #[.int .i64 (n), .int .u64 (b)]), (.agg #[.int .i64 (m), .int .u64 (c)])] w fun e w' => e = .returned (.tuple #[.int .i64 A, .int .i64 E]) ∧ Below w.heap.size w w') ∧ (∀ w, Calls Try.prog 23 #[(.agg #[.int .i64 (n), .int .u64 (b)]), (.agg #[.int .i64 (m), .int .u64 (c)])] w fun e w' => e = .returned (.tuple #[.int .i64 A, .int .i64 E]) ∧ Below w.heap.size w w') :=
    ⟨_, _, fun w => vCommon_any n b m c hb hc w, fun w => rCommon_any n b m c hb hc w⟩
  obtain ⟨A', E', f3, f4⟩ : ∃ A E : Int, (∀ w, Calls Try.prog 24 #[(.agg #[.int .i64 (n), .int .u64 (b)]), (.agg #[.int .i64 (m), .int .u64 (c)])] w fun e w' => e = .returned (.tuple #[.int .i64 A, .int .i64 E]) ∧ Below w.heap.size w w') ∧ (∀ w, Calls Try.prog 25 #[(.agg #[.int .i64 (n), .int .u64 (b)]), (.agg #[.int .i64 (m), .int .u64 (c)])] w fun e w' => e = .returned (.tuple #[.int .i64 A, .int .i64 E]) ∧ Below w.heap.size w w') :=
    ⟨_, _, fun w => vCompare_any n b m c hb hc w, fun w => rCompare_any n b m c hb hc w⟩
  obtain ⟨bg, f5, f6⟩ : ∃ bg : Bool, (∀ w, Calls Try.prog 26 #[(.agg #[.int .i64 (n), .int .u64 (b)]), (.agg #[.int .i64 (m), .int .u64 (c)])] w fun e w' => e = .returned (.bool bg) ∧ Below w.heap.size w w') ∧ (∀ w, Calls Try.prog 27 #[(.agg #[.int .i64 (n), .int .u64 (b)]), (.agg #[.int .i64 (m), .int .u64 (c)])] w fun e w' => e = .returned (.bool bg) ∧ Below w.heap.size w w') :=
    ⟨_, fun w => vBegins_any n b m c hb hc w, fun w => rBegins_any n b m c hb hc w⟩
  replace f1 := hide f1
  replace f2 := hide f2
  replace f3 := hide f3
  replace f4 := hide f4
  replace f5 := hide f5
  replace f6 := hide f6
  clear hb hc _hb2 _hc2
  go_enter Try.func5, Try.ntmps5
  go_wp2_with fail
  refine (f1.out _).mono ?_; rintro e w1 ⟨rfl, hb1⟩
  have I0 := hide (((Is2.new w (.int .i64 n) (.int .u64 b)).alloc (.cells #[.int .i64 m, .int .u64 c] 24)).below hb1)
  have i1 := ((Is2.new (w.alloc (.cells #[.int .i64 n, .int .u64 b] 24)) (.int .i64 m) (.int .u64 c)).below hb1)
  rw [World.size_alloc] at i1
  have I1 := hide i1
  clear i1
  have HB := hide (bx2 hb1)
  clear hb1
  obtain ⟨a0, a1, -, -⟩ := I0.out.c
  obtain ⟨b0, b1, -, -⟩ := I1.out.c
  go_wp2_with fail
  refine (f2.out _).mono ?_; rintro e w2 ⟨rfl, hb2⟩
  replace I0 := hide (I0.out.below hb2)
  replace I1 := hide (I1.out.below hb2)
  replace HB := hide (bstep HB.out hb2)
  clear a0 a1 b0 b1 hb2
  obtain ⟨a0, a1, -, -⟩ := I0.out.c
  obtain ⟨b0, b1, -, -⟩ := I1.out.c
  go_wp2_with fail
  refine (f3.out _).mono ?_; rintro e w3 ⟨rfl, hb3⟩
  replace I0 := hide (I0.out.below hb3)
  replace I1 := hide (I1.out.below hb3)
  replace HB := hide (bstep HB.out hb3)
  clear a0 a1 b0 b1 hb3
  obtain ⟨a0, a1, -, -⟩ := I0.out.c
  obtain ⟨b0, b1, -, -⟩ := I1.out.c
  go_wp2_with fail
  refine (f4.out _).mono ?_; rintro e w4 ⟨rfl, hb4⟩
  replace I0 := hide (I0.out.below hb4)
  replace I1 := hide (I1.out.below hb4)
  replace HB := hide (bstep HB.out hb4)
  clear a0 a1 b0 b1 hb4
  obtain ⟨a0, a1, -, -⟩ := I0.out.c
  obtain ⟨b0, b1, -, -⟩ := I1.out.c
  have hz := I1.out.lt
  go_wp2_with fail
  clear f1 f2 f3 f4 I0 I1
  go_region_held3 (fun w' => w'.cell? ⟨w.heap.size, 0, none⟩ = some (.int .i64 n) ∧ w'.cell? ⟨w.heap.size, 1, none⟩ = some (.int .u64 b) ∧ w'.cell? ⟨w.heap.size + 1, 0, none⟩ = some (.int .i64 m) ∧ w'.cell? ⟨w.heap.size + 1, 1, none⟩ = some (.int .u64 c) ∧ w.heap.size + 1 < w'.heap.size)
    (first | go_keep | (go_split_ands; refine ⟨?_, ?_, ?_, ?_, ?_⟩ <;> first | assumption | (rw [hbb.cell (by simp; omega)]; assumption) | (have := hbb.size; first | omega | (simp at this; omega))))
    (first
      | (go_at_call 26; refine (f5.out _).mono ?_; rintro e w' ⟨rfl, hbb⟩)
      | (go_at_call 27; refine (f6.out _).mono ?_; rintro e w' ⟨rfl, hbb⟩)
      | (go_at_call 19; refine (alive_any _).mono ?_; rintro e w' ⟨rfl, hbb⟩))
  all_goals
    have hB : Below w4.heap.size w4 w' := bstep (bstep (bstep (Below.refl _ _).drew (by assumption)) (by assumption)) hbb
    replace HB := hide (bstep HB.out hB)
    clear hB hbb
    go_wp2
    go_ret
    exact ⟨rfl, HB.out⟩

end Go.Proofs.Ytdjlmmgnknfkfaa
