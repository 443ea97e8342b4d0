/- The walk of statement VecTexts: true at every vector and text. -/
import Derived.Test.YtdjlmmgnknfkfaaS
namespace Go.Proofs.Ytdjlmmgnknfkfaa
open Go.RowKit

theorem reads_same (t : ByteArray) (ht : t.size ≤ 1000) : ∃ L B P E : Int, (∀ w, Calls Try.prog 30 #[.string t] w fun e w' => e = .returned (.tuple #[(.agg #[.int .i64 (L), .int .u64 (B)]), .int .i64 P, .int .i64 E]) ∧ Below w.heap.size w w') ∧ (∀ w, Calls Try.prog 31 #[.string t] w fun e w' => e = .returned (.tuple #[(.agg #[.int .i64 (L), .int .u64 (B)]), .int .i64 P, .int .i64 E]) ∧ Below w.heap.size w w') :=
  ⟨_, _, _, _, fun w => vRead_any t ht w, fun w => rRead_any t ht w⟩

set_option maxHeartbeats 2000000 in
theorem vecTexts_any (n b : Int) (s : ByteArray) (hb : 0 ≤ b) (_hb2 : b < 18446744073709551616) (hs : s.size ≤ maxLen) (w : World) :
    Calls Try.prog 6 #[(.agg #[.int .i64 (n), .int .u64 (b)]), .string s] w fun e w' => e = .returned (.bool true) ∧ Below w.heap.size w w' := by
  obtain ⟨X, E0, f1, f2⟩ : ∃ (X : ByteArray) (E0 : Int), (∀ w, Calls Try.prog 28 #[(.agg #[.int .i64 (n), .int .u64 (b)])] w fun e w' => e = .returned (.tuple #[.string X, .int .i64 E0]) ∧ Below w.heap.size w w') ∧ (∀ w, Calls Try.prog 29 #[(.agg #[.int .i64 (n), .int .u64 (b)])] w fun e w' => e = .returned (.tuple #[.string X, .int .i64 E0]) ∧ Below w.heap.size w w') :=
    ⟨_, _, fun w => vText_any n b hb w, fun w => rText_any n b hb w⟩
  replace f1 := hide f1
  replace f2 := hide f2
  unfold maxLen at hs
  by_cases hl : s.size ≤ 100
  · obtain ⟨L, B, P, E, g1, g2⟩ := reads_same s (by omega)
    replace g1 := hide g1
    replace g2 := hide g2
    go_enter Try.func6, Try.ntmps6
    go_wp2_with fail
    refine (f1.out _).mono ?_; rintro e w1 ⟨rfl, hb1⟩
    have I0 := hide ((Is2.new w (.int .i64 n) (.int .u64 b)).below hb1)
    have HB := hide (bx hb1)
    clear hb1
    obtain ⟨a0, a1, -, -⟩ := I0.out.c
    go_wp2_with fail
    refine (f2.out _).mono ?_; rintro e w2 ⟨rfl, hb2⟩
    replace HB := hide (bstep HB.out hb2)
    clear hb2 a0 a1 I0
    go_wp2_with fail
    refine (g1.out _).mono ?_; rintro e w3 ⟨rfl, hb3⟩
    replace HB := hide (bstep HB.out hb3)
    clear hb3
    go_wp2_with fail
    refine (g2.out _).mono ?_; rintro e w4 ⟨rfl, hb4⟩
    have I1 := hide ((Is2.new w3 (.int .i64 L) (.int .u64 B)).below hb4)
    replace HB := hide (bstep HB.out (bx hb4))
    obtain ⟨a0, a1, -, -⟩ := I1.out.c
    have z1 := I1.out.lt
    clear hb4
    go_wp2_with fail
    refine (alive_any _).mono ?_; rintro e w5 ⟨rfl, hb5⟩
    go_wp2
    go_ret
    exact ⟨rfl, bstep HB.out (bx hb5)⟩
  · have hl2 : (100 : Int) < s.size := by omega
    obtain ⟨L, B, P, E, g1, g2⟩ := reads_same (s.extract 0 100) (by rw [ByteArray.size_extract]; omega)
    replace g1 := hide g1
    replace g2 := hide g2
    go_enter Try.func6, Try.ntmps6
    go_wp2_with fail
    refine (f1.out _).mono ?_; rintro e w1 ⟨rfl, hb1⟩
    have I0 := hide ((Is2.new w (.int .i64 n) (.int .u64 b)).below hb1)
    have HB := hide (bx hb1)
    clear hb1
    obtain ⟨a0, a1, -, -⟩ := I0.out.c
    go_wp2_with fail
    refine (f2.out _).mono ?_; rintro e w2 ⟨rfl, hb2⟩
    replace HB := hide (bstep HB.out hb2)
    clear hb2 a0 a1 I0
    go_wp2_with fail
    refine (g1.out _).mono ?_; rintro e w3 ⟨rfl, hb3⟩
    replace HB := hide (bstep HB.out hb3)
    clear hb3
    go_wp2_with fail
    refine (g2.out _).mono ?_; rintro e w4 ⟨rfl, hb4⟩
    have I1 := hide ((Is2.new w3 (.int .i64 L) (.int .u64 B)).below hb4)
    replace HB := hide (bstep HB.out (bx hb4))
    obtain ⟨a0, a1, -, -⟩ := I1.out.c
    have z1 := I1.out.lt
    clear hb4
    go_wp2_with fail
    refine (alive_any _).mono ?_; rintro e w5 ⟨rfl, hb5⟩
    go_wp2
    go_ret
    exact ⟨rfl, bstep HB.out (bx hb5)⟩

end Go.Proofs.Ytdjlmmgnknfkfaa
