/- The walk of statement VecBits: true at every vector and place. -/
import Derived.Test.YtdjlmmgnknfkfaaK
namespace Go.Proofs.Ytdjlmmgnknfkfaa
open Go.RowKit
attribute [local go_sem ↓] Go.wp_at_zero Go.wp_at_succ

set_option maxHeartbeats 4000000 in
set_option maxRecDepth 100000 in
theorem vecBits_any (n b i : Int) (hb : 0 ≤ b) (hb2 : b < 18446744073709551616) (w : World) :
    Calls Try.prog 3 #[(.agg #[.int .i64 (n), .int .u64 (b)]), .int .i64 i] w fun e w' => e = .returned (.bool true) ∧ Below w.heap.size w w' := by
  obtain ⟨A, E, f1, f2⟩ : ∃ A E : Int, (∀ w, Calls Try.prog 9 #[(.agg #[.int .i64 (n), .int .u64 (b)]), .int .i64 i] w fun e w' => e = .returned (.tuple #[.int .i64 A, .int .i64 E]) ∧ Below w.heap.size w w') ∧ (∀ w, Calls Try.prog 10 #[(.agg #[.int .i64 (n), .int .u64 (b)]), .int .i64 i] w fun e w' => e = .returned (.tuple #[.int .i64 A, .int .i64 E]) ∧ Below w.heap.size w w') :=
    ⟨_, _, fun w => vBit_any n b i hb hb2 w, fun w => rBit_any n b i hb hb2 w⟩
  replace f1 := hide f1
  replace f2 := hide f2
  obtain ⟨L1, B1, E1, p1, r1⟩ : ∃ L B E : Int, (∀ w, Calls Try.prog 11 #[(.agg #[.int .i64 (n), .int .u64 (b)]), .int .i64 i] w fun e w' => e = .returned (.tuple #[(.agg #[.int .i64 (L), .int .u64 (B)]), .int .i64 E]) ∧ Below w.heap.size w w') ∧ (∀ w, Calls Try.prog 12 #[(.agg #[.int .i64 (n), .int .u64 (b)]), .int .i64 i] w fun e w' => e = .returned (.tuple #[(.agg #[.int .i64 (L), .int .u64 (B)]), .int .i64 E]) ∧ Below w.heap.size w w') :=
    ⟨_, _, _, fun w => vPrefix_any n b i hb w, fun w => rPrefix_any n b i hb hb2 w⟩
  replace p1 := hide p1
  replace r1 := hide r1
  obtain ⟨L2, B2, E2, p2, r2⟩ : ∃ L B E : Int, (∀ w, Calls Try.prog 13 #[(.agg #[.int .i64 (n), .int .u64 (b)]), .int .i64 i] w fun e w' => e = .returned (.tuple #[(.agg #[.int .i64 (L), .int .u64 (B)]), .int .i64 E]) ∧ Below w.heap.size w w') ∧ (∀ w, Calls Try.prog 14 #[(.agg #[.int .i64 (n), .int .u64 (b)]), .int .i64 i] w fun e w' => e = .returned (.tuple #[(.agg #[.int .i64 (L), .int .u64 (B)]), .int .i64 E]) ∧ Below w.heap.size w w') :=
    ⟨_, _, _, fun w => vRest_any n b i hb hb2 w, fun w => rRest_any n b i hb hb2 w⟩
  replace p2 := hide p2
  replace r2 := hide r2
  obtain ⟨L3, B3, E3, p3, r3⟩ : ∃ L B E : Int, (∀ w, Calls Try.prog 15 #[(.agg #[.int .i64 (n), .int .u64 (b)]), .int .i64 i] w fun e w' => e = .returned (.tuple #[(.agg #[.int .i64 (L), .int .u64 (B)]), .int .i64 E]) ∧ Below w.heap.size w w') ∧ (∀ w, Calls Try.prog 16 #[(.agg #[.int .i64 (n), .int .u64 (b)]), .int .i64 i] w fun e w' => e = .returned (.tuple #[(.agg #[.int .i64 (L), .int .u64 (B)]), .int .i64 E]) ∧ Below w.heap.size w w') :=
    ⟨_, _, _, fun w => vFlip_any n b i hb hb2 w, fun w => rFlip_any n b i hb hb2 w⟩
  replace p3 := hide p3
  replace r3 := hide r3
  have FR := hide (fun w => vright_any n b hb w)
  have FQ := hide (fun w => rright_any n b w)
  clear hb hb2
  obtain ⟨re, rr, hre, fr, fq⟩ : ∃ (re : Int) (rr : Bool), ((re == 0) == rr) = true ∧ (∀ w, Calls Try.prog 17 #[(.agg #[.int .i64 (n), .int .u64 (b)])] w fun e w' => e = .returned (.int .i64 re) ∧ Below w.heap.size w w') ∧ (∀ w, Calls Try.prog 18 #[(.agg #[.int .i64 (n), .int .u64 (b)])] w fun e w' => e = .returned (.bool rr) ∧ Below w.heap.size w w') := by
    refine ⟨_, _, ?_, FR.out, FQ.out⟩
    cases h : rt n b with
    | true => rw [reS_yes h]; rfl
    | false => rw [reS_no h]; rfl
  replace fr := hide fr
  replace fq := hide fq
  clear FR FQ
  go_enter Try.func3, Try.ntmps3
  go_wp2_with fail
  refine (f1.out _).mono ?_; rintro e w1 ⟨rfl, hb1⟩
  have I0 := hide ((Is2.new w (.int .i64 n) (.int .u64 b)).below hb1)
  have c0 := I0.out.c
  obtain ⟨a0, a1, -, -⟩ := c0
  have HB1 := hide (bx hb1)
  clear hb1
  go_wp2_with fail
  refine (f2.out _).mono ?_; rintro e w2 ⟨rfl, hb2⟩
  replace I0 := hide (I0.out.below hb2)
  have HB2 := hide (bstep HB1.out hb2)
  clear a0 a1 hb2 HB1
  obtain ⟨a0, a1, -, -⟩ := I0.out.c
  go_wp2_with fail
  refine (p1.out _).mono ?_; rintro e w3 ⟨rfl, hb3⟩
  replace I0 := hide (I0.out.below hb3)
  have HB3 := hide (bstep HB2.out hb3)
  clear a0 a1 hb3 HB2
  obtain ⟨a0, a1, -, -⟩ := I0.out.c
  have z0 := I0.out.lt
  go_wp2_with fail
  refine (r1.out _).mono ?_; rintro e w4 ⟨rfl, hb4⟩
  replace I0 := hide ((I0.out.alloc _).below hb4)
  have I1 := hide ((Is2.new w3 (.int .i64 L1) (.int .u64 B1)).below hb4)
  have HB4 := hide (bstep HB3.out (bx hb4))
  clear z0
  clear a0 a1 hb4 HB3
  obtain ⟨a0, a1, -, -⟩ := I0.out.c
  have z0 := I0.out.lt
  go_wp2_with fail
  refine (p2.out _).mono ?_; rintro e w5 ⟨rfl, hb5⟩
  replace I0 := hide ((I0.out.alloc _).below hb5)
  replace I1 := hide ((I1.out.alloc _).below hb5)
  have I2 := hide ((Is2.new w4 (.int .i64 L1) (.int .u64 B1)).below hb5)
  have HB5 := hide (bstep HB4.out (bx hb5))
  clear z0
  clear a0 a1 hb5 HB4
  obtain ⟨a0, a1, -, -⟩ := I0.out.c
  have z0 := I0.out.lt
  go_wp2_with fail
  refine (r2.out _).mono ?_; rintro e w6 ⟨rfl, hb6⟩
  replace I0 := hide ((I0.out.alloc _).below hb6)
  replace I1 := hide ((I1.out.alloc _).below hb6)
  replace I2 := hide ((I2.out.alloc _).below hb6)
  have I3 := hide ((Is2.new w5 (.int .i64 L2) (.int .u64 B2)).below hb6)
  have HB6 := hide (bstep HB5.out (bx hb6))
  clear z0
  clear a0 a1 hb6 HB5
  obtain ⟨a0, a1, -, -⟩ := I0.out.c
  have z0 := I0.out.lt
  go_wp2_with fail
  refine (p3.out _).mono ?_; rintro e w7 ⟨rfl, hb7⟩
  replace I0 := hide ((I0.out.alloc _).below hb7)
  replace I1 := hide ((I1.out.alloc _).below hb7)
  replace I2 := hide ((I2.out.alloc _).below hb7)
  replace I3 := hide ((I3.out.alloc _).below hb7)
  have I4 := hide ((Is2.new w6 (.int .i64 L2) (.int .u64 B2)).below hb7)
  have HB7 := hide (bstep HB6.out (bx hb7))
  clear z0
  clear a0 a1 hb7 HB6
  obtain ⟨a0, a1, -, -⟩ := I0.out.c
  have z0 := I0.out.lt
  go_wp2_with fail
  refine (r3.out _).mono ?_; rintro e w8 ⟨rfl, hb8⟩
  replace I0 := hide ((I0.out.alloc _).below hb8)
  replace I1 := hide ((I1.out.alloc _).below hb8)
  replace I2 := hide ((I2.out.alloc _).below hb8)
  replace I3 := hide ((I3.out.alloc _).below hb8)
  replace I4 := hide ((I4.out.alloc _).below hb8)
  have I5 := hide ((Is2.new w7 (.int .i64 L3) (.int .u64 B3)).below hb8)
  have HB8 := hide (bstep HB7.out (bx hb8))
  clear z0
  clear a0 a1 hb8 HB7
  obtain ⟨a0, a1, -, -⟩ := I0.out.c
  have z0 := I0.out.lt
  replace I0 := hide (I0.out.alloc (.cells #[.int .i64 L3, .int .u64 B3] 24))
  replace I1 := hide (I1.out.alloc (.cells #[.int .i64 L3, .int .u64 B3] 24))
  replace I2 := hide (I2.out.alloc (.cells #[.int .i64 L3, .int .u64 B3] 24))
  replace I3 := hide (I3.out.alloc (.cells #[.int .i64 L3, .int .u64 B3] 24))
  replace I4 := hide (I4.out.alloc (.cells #[.int .i64 L3, .int .u64 B3] 24))
  replace I5 := hide (I5.out.alloc (.cells #[.int .i64 L3, .int .u64 B3] 24))
  have I6 := hide (Is2.new w8 (.int .i64 L3) (.int .u64 B3))
  have HB9 := hide (HB8.out.alloc (HB8.out.size) (.cells #[.int .i64 L3, .int .u64 B3] 24))
  clear a0 a1 z0 HB8
  go_wp2_with fail
  generalize w8.alloc (.cells #[.int .i64 L3, .int .u64 B3] 24) = W at *
  generalize hg0 : w.heap.size = g0 at *
  have HG0 := hide hg0
  clear hg0
  generalize w3.heap.size = g1 at *
  generalize w4.heap.size = g2 at *
  generalize w5.heap.size = g3 at *
  generalize w6.heap.size = g4 at *
  generalize w7.heap.size = g5 at *
  generalize w8.heap.size = g6 at *
  have z0 := I0.out.lt
  obtain ⟨m0, u0, -, -⟩ := I0.out.c
  have z1 := I1.out.lt
  obtain ⟨m1, u1, -, -⟩ := I1.out.c
  have z2 := I2.out.lt
  obtain ⟨m2, u2, -, -⟩ := I2.out.c
  have z3 := I3.out.lt
  obtain ⟨m3, u3, -, -⟩ := I3.out.c
  have z4 := I4.out.lt
  obtain ⟨m4, u4, -, -⟩ := I4.out.c
  have z5 := I5.out.lt
  obtain ⟨m5, u5, -, -⟩ := I5.out.c
  have z6 := I6.out.lt
  obtain ⟨m6, u6, -, -⟩ := I6.out.c
  clear f1 f2 p1 p2 p3 r1 r2 r3
  go_region_held3 (fun w' => w'.cell? ⟨g0, 0, none⟩ = some (.int .i64 n) ∧ w'.cell? ⟨g0, 1, none⟩ = some (.int .u64 b) ∧ g0 < w'.heap.size ∧ w'.cell? ⟨g1, 0, none⟩ = some (.int .i64 L1) ∧ w'.cell? ⟨g1, 1, none⟩ = some (.int .u64 B1) ∧ g1 < w'.heap.size ∧ w'.cell? ⟨g2, 0, none⟩ = some (.int .i64 L1) ∧ w'.cell? ⟨g2, 1, none⟩ = some (.int .u64 B1) ∧ g2 < w'.heap.size ∧ w'.cell? ⟨g3, 0, none⟩ = some (.int .i64 L2) ∧ w'.cell? ⟨g3, 1, none⟩ = some (.int .u64 B2) ∧ g3 < w'.heap.size ∧ w'.cell? ⟨g4, 0, none⟩ = some (.int .i64 L2) ∧ w'.cell? ⟨g4, 1, none⟩ = some (.int .u64 B2) ∧ g4 < w'.heap.size ∧ w'.cell? ⟨g5, 0, none⟩ = some (.int .i64 L3) ∧ w'.cell? ⟨g5, 1, none⟩ = some (.int .u64 B3) ∧ g5 < w'.heap.size ∧ w'.cell? ⟨g6, 0, none⟩ = some (.int .i64 L3) ∧ w'.cell? ⟨g6, 1, none⟩ = some (.int .u64 B3) ∧ g6 < w'.heap.size)
    (first | go_keep | (go_split_ands; refine ⟨?_, ?_, ?_, ?_, ?_, ?_, ?_, ?_, ?_, ?_, ?_, ?_, ?_, ?_, ?_, ?_, ?_, ?_, ?_, ?_, ?_⟩ <;> first | assumption | (rw [hbb.cell (by assumption)]; assumption) | (have := hbb.size; first | omega | (simp at this; omega))))
    (first
      | (go_at_call 17; refine (fr.out _).mono ?_; rintro e w' ⟨rfl, hbb⟩)
      | (go_at_call 18; refine (fq.out _).mono ?_; rintro e w' ⟨rfl, hbb⟩)
      | (go_at_call 19; refine (alive_any _).mono ?_; rintro e w' ⟨rfl, hbb⟩))
  all_goals
    have hB : Below W.heap.size W w' := bstep (bstep (bstep (Below.refl _ _).drew (by assumption)) (by assumption)) hbb
    have hf : Below w.heap.size w w' := by rw [HG0.out]; exact HB9.out.trans (hB.mono (Nat.le_of_lt z0))
    have HF := hide hf
    clear hB hf hbb
    go_wp2
    go_ret
    first
      | exact ⟨rfl, HF.out⟩
      | (rw [← HG0.out]; exact ⟨rfl, HF.out⟩)

end Go.Proofs.Ytdjlmmgnknfkfaa
