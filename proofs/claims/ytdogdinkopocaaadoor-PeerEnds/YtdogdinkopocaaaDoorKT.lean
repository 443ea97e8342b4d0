/- Two records: are they alike? By the program and by the document. -/
import Derived.Test.YtdogdinkopocaaaDoorKS
namespace Go.Proofs.YtdogdinkopocaaaDoor
open Go.RowKit Go.Maps

theorem eqv (a b c d : Int) (w : World) : (binOp .eql 27 (.agg #[.int .i64 a, .int .u64 b]) (.agg #[.int .i64 c, .int .u64 d])).run Tryd.prog w = .ok (.bool (a == c && b == d)) w := by
  have u1 := Tryd.underlying3
  have a1 := Tryd.isAgg3
  have z1 := Tryd.sizeOf3
  have u2 := Tryd.underlying23
  have a2 := Tryd.isAgg23
  have z2 := Tryd.sizeOf23
  have hS : Tryd.prog.underlying 27 = some (.struct (Tryd.prog.fieldsOf 27)) := by kernel_rfl
  have hp : Tryd.prog.stoodInHeld 27 = false := by kernel_rfl
  rw [run_eql_struct, show (10000 : Nat) = 9999 + 1 from rfl, run_equalIn_agg w 9999 27 _ _ hS hp]
  simp only [Program.fieldsOf, Tryd.underlying27]
  go_simp
  by_cases h1 : a = c <;> by_cases h2 : b = d <;> simp [h1, h2]
theorem eqr (i a b c d i' a' b' c' d' : Int) (w : World) : (binOp .eql 29 (.agg #[.int .i64 i, .int .i64 a, .int .u64 b, .int .i64 c, .int .u64 d]) (.agg #[.int .i64 i', .int .i64 a', .int .u64 b', .int .i64 c', .int .u64 d'])).run Tryd.prog w = .ok (.bool (i == i' && (a == a' && b == b') && (c == c' && d == d'))) w := by
  have u0 := Tryd.underlying22
  have a0 := Tryd.isAgg22
  have z0 := Tryd.sizeOf22
  have u1 := Tryd.underlying3
  have a1 := Tryd.isAgg3
  have z1 := Tryd.sizeOf3
  have u2 := Tryd.underlying23
  have a2 := Tryd.isAgg23
  have z2 := Tryd.sizeOf23
  have u3 := Tryd.isAgg25
  have u4 := Tryd.sizeOf25
  have u5 := Tryd.isAgg27
  have u6 := Tryd.sizeOf27
  have hS : Tryd.prog.underlying 29 = some (.struct (Tryd.prog.fieldsOf 29)) := by kernel_rfl
  have hp : Tryd.prog.stoodInHeld 29 = false := by kernel_rfl
  have hS1 : Tryd.prog.underlying 25 = some (.struct (Tryd.prog.fieldsOf 25)) := by kernel_rfl
  have hp1 : Tryd.prog.stoodInHeld 25 = false := by kernel_rfl
  have hS2 : Tryd.prog.underlying 27 = some (.struct (Tryd.prog.fieldsOf 27)) := by kernel_rfl
  have hp2 : Tryd.prog.stoodInHeld 27 = false := by kernel_rfl
  obtain ⟨dd, hd⟩ : ∃ dd, (10000 : Nat) = dd + 1 + 1 + 1 := ⟨9997, rfl⟩
  rw [run_eql_struct, hd, run_equalIn_agg w (dd + 1 + 1) 29 _ _ hS hp]
  clear hd hS
  simp only [Program.fieldsOf, Tryd.underlying29]
  have e1 : ∀ (x y x' y' : Int) w, (Op.equalIn (dd + 1 + 1) 25 (.agg #[.int .i64 x, .int .u64 y]) (.agg #[.int .i64 x', .int .u64 y'])).run Tryd.prog w = .ok (x == x' && y == y') w := fun x y x' y' w => by
    rw [run_equalIn_agg w (dd + 1) 25 _ _ hS1 hp1]
    simp only [Program.fieldsOf, Tryd.underlying25]
    go_simp
    by_cases h1 : x = x' <;> by_cases h2 : y = y' <;> simp [h1, h2]
  have e2 : ∀ (x y x' y' : Int) w, (Op.equalIn (dd + 1 + 1) 27 (.agg #[.int .i64 x, .int .u64 y]) (.agg #[.int .i64 x', .int .u64 y'])).run Tryd.prog w = .ok (x == x' && y == y') w := fun x y x' y' w => by
    rw [run_equalIn_agg w (dd + 1) 27 _ _ hS2 hp2]
    simp only [Program.fieldsOf, Tryd.underlying27]
    go_simp
    by_cases h1 : x = x' <;> by_cases h2 : y = y' <;> simp [h1, h2]
  clear hS1 hp1 hS2 hp2
  go_simp
  by_cases h1 : i = i' <;> by_cases h2 : a = a' <;> by_cases h3 : b = b' <;> by_cases h4 : c = c' <;> by_cases h5 : d = d' <;> simp [h1, h2, h3, h4, h5]
theorem nev (a b c d : Int) (w : World) : (binOp .neq 27 (.agg #[.int .i64 a, .int .u64 b]) (.agg #[.int .i64 c, .int .u64 d])).run Tryd.prog w = .ok (.bool (!(a == c && b == d))) w := by
  have u1 := Tryd.underlying3
  have a1 := Tryd.isAgg3
  have z1 := Tryd.sizeOf3
  have u2 := Tryd.underlying23
  have a2 := Tryd.isAgg23
  have z2 := Tryd.sizeOf23
  have hS : Tryd.prog.underlying 27 = some (.struct (Tryd.prog.fieldsOf 27)) := by kernel_rfl
  have hp : Tryd.prog.stoodInHeld 27 = false := by kernel_rfl
  rw [run_neq_struct, show (10000 : Nat) = 9999 + 1 from rfl, run_equalIn_agg w 9999 27 _ _ hS hp]
  simp only [Program.fieldsOf, Tryd.underlying27]
  go_simp
  by_cases h1 : a = c <;> by_cases h2 : b = d <;> simp [h1, h2]
theorem ner (i a b c d i' a' b' c' d' : Int) (w : World) : (binOp .neq 29 (.agg #[.int .i64 i, .int .i64 a, .int .u64 b, .int .i64 c, .int .u64 d]) (.agg #[.int .i64 i', .int .i64 a', .int .u64 b', .int .i64 c', .int .u64 d'])).run Tryd.prog w = .ok (.bool (!(i == i' && (a == a' && b == b') && (c == c' && d == d')))) w := by
  have u0 := Tryd.underlying22
  have a0 := Tryd.isAgg22
  have z0 := Tryd.sizeOf22
  have u1 := Tryd.underlying3
  have a1 := Tryd.isAgg3
  have z1 := Tryd.sizeOf3
  have u2 := Tryd.underlying23
  have a2 := Tryd.isAgg23
  have z2 := Tryd.sizeOf23
  have u3 := Tryd.isAgg25
  have u4 := Tryd.sizeOf25
  have u5 := Tryd.isAgg27
  have u6 := Tryd.sizeOf27
  have hS : Tryd.prog.underlying 29 = some (.struct (Tryd.prog.fieldsOf 29)) := by kernel_rfl
  have hp : Tryd.prog.stoodInHeld 29 = false := by kernel_rfl
  have hS1 : Tryd.prog.underlying 25 = some (.struct (Tryd.prog.fieldsOf 25)) := by kernel_rfl
  have hp1 : Tryd.prog.stoodInHeld 25 = false := by kernel_rfl
  have hS2 : Tryd.prog.underlying 27 = some (.struct (Tryd.prog.fieldsOf 27)) := by kernel_rfl
  have hp2 : Tryd.prog.stoodInHeld 27 = false := by kernel_rfl
  obtain ⟨dd, hd⟩ : ∃ dd, (10000 : Nat) = dd + 1 + 1 + 1 := ⟨9997, rfl⟩
  rw [run_neq_struct, hd, run_equalIn_agg w (dd + 1 + 1) 29 _ _ hS hp]
  clear hd hS
  simp only [Program.fieldsOf, Tryd.underlying29]
  have e1 : ∀ (x y x' y' : Int) w, (Op.equalIn (dd + 1 + 1) 25 (.agg #[.int .i64 x, .int .u64 y]) (.agg #[.int .i64 x', .int .u64 y'])).run Tryd.prog w = .ok (x == x' && y == y') w := fun x y x' y' w => by
    rw [run_equalIn_agg w (dd + 1) 25 _ _ hS1 hp1]
    simp only [Program.fieldsOf, Tryd.underlying25]
    go_simp
    by_cases h1 : x = x' <;> by_cases h2 : y = y' <;> simp [h1, h2]
  have e2 : ∀ (x y x' y' : Int) w, (Op.equalIn (dd + 1 + 1) 27 (.agg #[.int .i64 x, .int .u64 y]) (.agg #[.int .i64 x', .int .u64 y'])).run Tryd.prog w = .ok (x == x' && y == y') w := fun x y x' y' w => by
    rw [run_equalIn_agg w (dd + 1) 27 _ _ hS2 hp2]
    simp only [Program.fieldsOf, Tryd.underlying27]
    go_simp
    by_cases h1 : x = x' <;> by_cases h2 : y = y' <;> simp [h1, h2]
  clear hS1 hp1 hS2 hp2
  go_simp
  by_cases h1 : i = i' <;> by_cases h2 : a = a' <;> by_cases h3 : b = b' <;> by_cases h4 : c = c' <;> by_cases h5 : d = d' <;> simp [h1, h2, h3, h4, h5]

abbrev Rf := Int × Int × Int × Int × Int
/-- A record as it is told. -/
abbrev RSt := Vc × Rf × Rf × Bool × Ow × List Ow
def sameR (x y : Rf) : Bool := x.1 == y.1 && (x.2.1 == y.2.1 && x.2.2.1 == y.2.2.1) && (x.2.2.2.1 == y.2.2.2.1 && x.2.2.2.2 == y.2.2.2.2)
theorem sameR_iff {x y : Rf} : sameR x y = true ↔ x = y := by
  obtain ⟨a, b, c, d, e⟩ := x
  obtain ⟨a', b', c', d', e'⟩ := y
  simp [sameR]
  constructor
  · rintro ⟨⟨rfl, rfl, rfl⟩, rfl, rfl⟩; exact ⟨rfl, rfl, rfl, rfl, rfl⟩
  · rintro ⟨rfl, rfl, rfl, rfl, rfl⟩; exact ⟨⟨rfl, rfl, rfl⟩, rfl, rfl⟩
/-- Are two alike? -/
def sameS (x y : RSt) : Bool := (x.1.1 == y.1.1 && x.1.2 == y.1.2) && (sameR x.2.1 y.2.1 && (sameR x.2.2.1 y.2.2.1 && (decide (x.2.2.2.1 = y.2.2.2.1) && ((x.2.2.2.2.1.1 == y.2.2.2.2.1.1 && x.2.2.2.2.1.2 == y.2.2.2.2.1.2) && decide (x.2.2.2.2.2 = y.2.2.2.2.2)))))
theorem sameS_iff {x y : RSt} : sameS x y = true ↔ x = y := by
  obtain ⟨⟨a, b⟩, c, d, e, ⟨f, g⟩, h⟩ := x
  obtain ⟨⟨a', b'⟩, c', d', e', ⟨f', g'⟩, h'⟩ := y
  simp only [sameS, Bool.and_eq_true, sameR_iff, beq_iff_eq, decide_eq_true_eq, Prod.mk.injEq]

set_option maxHeartbeats 16000000 in
set_option maxRecDepth 100000 in
theorem lsame_low (f0 f1 f2 f3 f4 f5 f6 f7 f8 f9 fa fb : Int) (fc : Bool) (fd fe : Int) (g0 g1 g2 g3 g4 g5 g6 g7 g8 g9 ga gb : Int) (gc : Bool) (gd ge : Int) (v1 v2 : Value) (l1 l2 : List Ow) (hl1 : l1.length ≤ 100000) (w : World) (h1 : Sl w v1 l1) (h2 : Sl w v2 l2) :
    Calls Tryd.prog 74 #[.agg #[.int .i64 f0, .int .u64 f1, .int .i64 f2, .int .i64 f3, .int .u64 f4, .int .i64 f5, .int .u64 f6, .int .i64 f7, .int .i64 f8, .int .u64 f9, .int .i64 fa, .int .u64 fb, .bool fc, .int .i64 fd, .int .i64 fe, v1], .agg #[.int .i64 g0, .int .u64 g1, .int .i64 g2, .int .i64 g3, .int .u64 g4, .int .i64 g5, .int .u64 g6, .int .i64 g7, .int .i64 g8, .int .u64 g9, .int .i64 ga, .int .u64 gb, .bool gc, .int .i64 gd, .int .i64 ge, v2]] w fun e w' => e = .returned (.bool (sameS ((f0, f1), (f2, f3, f4, f5, f6), (f7, f8, f9, fa, fb), fc, (fd, fe), l1) ((g0, g1), (g2, g3, g4, g5, g6), (g7, g8, g9, ga, gb), gc, (gd, ge), l2))) ∧ Below w.heap.size w w' := by
  obtain ⟨va, vc, rfl, -, -⟩ := h1.shape
  obtain ⟨va2, vc2, rfl, -, -⟩ := h2.shape
  have bel := hide (((Below.refl w.heap.size w).alloc (Nat.le_refl _) (.cells #[.int .i64 f0, .int .u64 f1, .int .i64 f2, .int .i64 f3, .int .u64 f4, .int .i64 f5, .int .u64 f6, .int .i64 f7, .int .i64 f8, .int .u64 f9, .int .i64 fa, .int .u64 fb, .bool fc, .int .i64 fd, .int .i64 fe, .slice va l1.length vc] 107)).alloc (by simp) (.cells #[.int .i64 g0, .int .u64 g1, .int .i64 g2, .int .i64 g3, .int .u64 g4, .int .i64 g5, .int .u64 g6, .int .i64 g7, .int .i64 g8, .int .u64 g9, .int .i64 ga, .int .u64 gb, .bool gc, .int .i64 gd, .int .i64 ge, .slice va2 l2.length vc2] 107))
  have S1 := hide h1
  have S2 := hide h2
  clear h1 h2
  have hw : ∀ w, (binOp .eql 27 (.agg #[.int .i64 f0, .int .u64 f1]) (.agg #[.int .i64 g0, .int .u64 g1])).run Tryd.prog w = .ok (.bool ((f0 == g0 && f1 == g1))) w := eqv _ _ _ _
  rcases ehw : (f0 == g0 && f1 == g1) with _ | _
  · rw [ehw] at hw
    rw [show sameS ((f0, f1), (f2, f3, f4, f5, f6), (f7, f8, f9, fa, fb), fc, (fd, fe), l1) ((g0, g1), (g2, g3, g4, g5, g6), (g7, g8, g9, ga, gb), gc, (gd, ge), l2) = false from by simp [sameS, sameR, *]]
    go_enter Tryd.func74, Tryd.ntmps74
    go_wp2
    go_ret
    exact ⟨rfl, bel.out⟩
  rw [ehw] at hw
  have hl : ∀ w, (binOp .eql 29 (.agg #[.int .i64 f2, .int .i64 f3, .int .u64 f4, .int .i64 f5, .int .u64 f6]) (.agg #[.int .i64 g2, .int .i64 g3, .int .u64 g4, .int .i64 g5, .int .u64 g6])).run Tryd.prog w = .ok (.bool ((f2 == g2 && (f3 == g3 && f4 == g4) && (f5 == g5 && f6 == g6)))) w := eqr _ _ _ _ _ _ _ _ _ _
  rcases ehl : (f2 == g2 && (f3 == g3 && f4 == g4) && (f5 == g5 && f6 == g6)) with _ | _
  · rw [ehl] at hl
    rw [show sameS ((f0, f1), (f2, f3, f4, f5, f6), (f7, f8, f9, fa, fb), fc, (fd, fe), l1) ((g0, g1), (g2, g3, g4, g5, g6), (g7, g8, g9, ga, gb), gc, (gd, ge), l2) = false from by simp [sameS, sameR, *]]
    go_enter Tryd.func74, Tryd.ntmps74
    go_wp2
    go_ret
    exact ⟨rfl, bel.out⟩
  rw [ehl] at hl
  have hr : ∀ w, (binOp .eql 29 (.agg #[.int .i64 f7, .int .i64 f8, .int .u64 f9, .int .i64 fa, .int .u64 fb]) (.agg #[.int .i64 g7, .int .i64 g8, .int .u64 g9, .int .i64 ga, .int .u64 gb])).run Tryd.prog w = .ok (.bool ((f7 == g7 && (f8 == g8 && f9 == g9) && (fa == ga && fb == gb)))) w := eqr _ _ _ _ _ _ _ _ _ _
  rcases ehr : (f7 == g7 && (f8 == g8 && f9 == g9) && (fa == ga && fb == gb)) with _ | _
  · rw [ehr] at hr
    rw [show sameS ((f0, f1), (f2, f3, f4, f5, f6), (f7, f8, f9, fa, fb), fc, (fd, fe), l1) ((g0, g1), (g2, g3, g4, g5, g6), (g7, g8, g9, ga, gb), gc, (gd, ge), l2) = false from by simp [sameS, sameR, *]]
    go_enter Tryd.func74, Tryd.ntmps74
    go_wp2
    go_ret
    exact ⟨rfl, bel.out⟩
  rw [ehr] at hr
  by_cases ehh : fc = gc
  rotate_left
  · skip
    rw [show sameS ((f0, f1), (f2, f3, f4, f5, f6), (f7, f8, f9, fa, fb), fc, (fd, fe), l1) ((g0, g1), (g2, g3, g4, g5, g6), (g7, g8, g9, ga, gb), gc, (gd, ge), l2) = false from by simp [sameS, sameR, *]]
    go_enter Tryd.func74, Tryd.ntmps74
    go_wp2
    go_ret
    exact ⟨rfl, bel.out⟩
  subst ehh
  have ho : ∀ w, (binOp .eql 52 (.agg #[.int .i64 fd, .int .i64 fe]) (.agg #[.int .i64 gd, .int .i64 ge])).run Tryd.prog w = .ok (.bool ((fd == gd && fe == ge))) w := owner_eq _ _ _ _
  rcases eho : (fd == gd && fe == ge) with _ | _
  · rw [eho] at ho
    rw [show sameS ((f0, f1), (f2, f3, f4, f5, f6), (f7, f8, f9, fa, fb), fc, (fd, fe), l1) ((g0, g1), (g2, g3, g4, g5, g6), (g7, g8, g9, ga, gb), fc, (gd, ge), l2) = false from by simp [sameS, sameR, *]]
    go_enter Tryd.func74, Tryd.ntmps74
    go_wp2
    go_ret
    exact ⟨rfl, bel.out⟩
  rw [eho] at ho
  have hres : sameS ((f0, f1), (f2, f3, f4, f5, f6), (f7, f8, f9, fa, fb), fc, (fd, fe), l1) ((g0, g1), (g2, g3, g4, g5, g6), (g7, g8, g9, ga, gb), fc, (gd, ge), l2) = decide (l1 = l2) := by simp [sameS, sameR, *]
  rw [hres]
  clear hres
  obtain ⟨B, hB⟩ : ∃ B, decide (l1 = l2) = B := ⟨_, rfl⟩
  rw [hB]
  replace hB := hide hB
  go_enter Tryd.func74, Tryd.ntmps74
  go_wp2_with fail
  refine (sequal_any _ _ l1 l2 hl1 _ (S1.out.below bel.out) (S2.out.below bel.out)).mono ?_
  rintro e w1 ⟨rfl, hb1⟩
  have HB1 := hide (bel.out.trans (hb1.mono bel.out.size))
  clear hb1
  rw [hB.out]
  go_wp2
  go_ret
  exact ⟨rfl, HB1.out⟩



end Go.Proofs.YtdogdinkopocaaaDoor
