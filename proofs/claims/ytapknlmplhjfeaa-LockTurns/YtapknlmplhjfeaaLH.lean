/- The law's own first question of a lock: three ask, one leaves. -/
import Derived.Test.YtapknlmplhjfeaaLG
namespace Go.Proofs.Ytapknlmplhjfeaa
open Go.RowKit Go.Maps

set_option maxHeartbeats 8000000 in
set_option maxRecDepth 100000 in
theorem alive_any (w : World) : Calls Try.prog 16 #[] w fun e w' => e = .returned (.bool true) ∧ Below w.heap.size w w' := by
  have hpn := ptr_eq_nil
  go_enter Try.func16, Try.ntmps16
  go_wp2_with fail
  refine (new_any w).mono ?_; rintro e w1 ⟨b, rfl, hb, hN, hbl⟩
  replace hN := hide hN
  replace hbl := hide hbl
  have A0 := IsB.new w1 #[.int .i64 0, .int .i64 1] 27
  have B0 := IsB.new (w1.alloc (.cells #[.int .i64 0, .int .i64 1] 27)) #[.int .i64 0, .int .i64 2] 27
  have C0 := IsB.new ((w1.alloc (.cells #[.int .i64 0, .int .i64 1] 27)).alloc (.cells #[.int .i64 0, .int .i64 2] 27)) #[.int .i64 3, .int .i64 1] 27
  have b1 := (Below.refl _ (w1.alloc (.cells #[.int .i64 0, .int .i64 1] 27))).alloc (Nat.le_refl _) (.cells #[.int .i64 0, .int .i64 2] 27)
  have b2 := (Below.refl _ ((w1.alloc (.cells #[.int .i64 0, .int .i64 1] 27)).alloc (.cells #[.int .i64 0, .int .i64 2] 27))).alloc (Nat.le_refl _) (.cells #[.int .i64 3, .int .i64 1] 27)
  have b3 := ((Below.refl w1.heap.size w1).alloc (Nat.le_refl _) (.cells #[.int .i64 0, .int .i64 1] 27)).alloc (by simp) (.cells #[.int .i64 0, .int .i64 2] 27)
  have A1 := hide ((A0.below b1).below b2)
  have B1 := hide (B0.below b2)
  have C1 := hide C0
  have X1 := hide (hN.out.lx (b3.alloc (by simp; omega) (.cells #[.int .i64 3, .int .i64 1] 27)))
  simp only [World.size_alloc] at A1 B1 C1
  have hbw : b < w1.heap.size := hN.out.blk.lt
  clear A0 B0 C0 b1 b2 b3
  go_wp2_with fail
  generalize ((w1.alloc (.cells #[.int .i64 0, .int .i64 1] 27)).alloc (.cells #[.int .i64 0, .int .i64 2] 27)).alloc (.cells #[.int .i64 3, .int .i64 1] 27) = W2 at A1 B1 C1 X1 ⊢
  generalize hA : w1.heap.size = A at A1 B1 C1 hbw ⊢
  replace hA := hide hA
  have nA : A ∉ [b] := by simp; omega
  have nB : A + 1 ∉ [b] := by simp; omega
  have nC : A + 1 + 1 ∉ [b] := by simp; omega
  refine (ask_new b _ _ _ X1.out.ls 0 1 (by decide) (by decide) (by decide)).mono ?_
  rintro e w3 ⟨rfl, v3, hx⟩
  have X3 := hide (X1.out.trans hx)
  have A3 := hide (A1.out.kp hx.kp nA)
  have B3 := hide (B1.out.kp hx.kp nB)
  have C3 := hide (C1.out.kp hx.kp nC)
  simp only [List.nil_append] at X3
  clear hx X1 A1 B1 C1
  have q0 := B3.out.cell 0
  have q1 := B3.out.cell 1
  simp at q0 q1
  go_wp2_with fail
  clear q0 q1
  refine (ask_new b _ _ _ X3.out.ls 0 2 (by decide) (by decide) (by decide)).mono ?_
  rintro e w4 ⟨rfl, v4, hx⟩
  have X4 := hide (X3.out.trans hx)
  have A4 := hide (A3.out.kp hx.kp nA)
  have B4 := hide (B3.out.kp hx.kp nB)
  have C4 := hide (C3.out.kp hx.kp nC)
  simp only [List.cons_append, List.nil_append] at X4
  clear hx X3 A3 B3 C3
  have q0 := C4.out.cell 0
  have q1 := C4.out.cell 1
  simp at q0 q1
  go_wp2_with fail
  clear q0 q1
  refine (ask_new b _ _ _ X4.out.ls 3 1 (by decide) (by decide) (by decide)).mono ?_
  rintro e w5 ⟨rfl, v5, hx⟩
  have X5 := hide (X4.out.trans hx)
  have A5 := hide (A4.out.kp hx.kp nA)
  have B5 := hide (B4.out.kp hx.kp nB)
  have C5 := hide (C4.out.kp hx.kp nC)
  simp only [List.cons_append, List.nil_append] at X5
  clear hx X4 A4 B4 C4
  have q0 := B5.out.cell 0
  have q1 := B5.out.cell 1
  simp at q0 q1
  go_wp2_with fail
  clear q0 q1
  refine (leave_one b _ _ _ X5.out.ls 0 2 (by decide) 1 (by decide) (by decide) (by decide)).mono ?_
  rintro e w6 ⟨rfl, v6, hx⟩
  have X6 := hide (X5.out.trans hx)
  have A6 := hide (A5.out.kp hx.kp nA)
  have C6 := hide (C5.out.kp hx.kp nC)
  simp only [List.eraseIdx_cons_succ, List.eraseIdx_cons_zero] at X6
  clear hx X5 A5 B5 C5
  have q0 := A6.out.cell 0
  have q1 := A6.out.cell 1
  simp at q0 q1
  go_wp2_with fail
  clear q0 q1
  refine (free_one b _ _ _ X6.out.ls 0 1 (by decide) (by decide) (by decide)).mono ?_
  rintro e w7 ⟨rfl, v7, hx⟩
  have X7 := X6.out.trans hx
  have C7 := C6.out.kp hx.kp nC
  simp only [List.tail_cons, hd, List.headD_cons, List.length_cons, List.length_nil] at X7 ⊢
  clear hx X6 A6 C6
  have bel := (Below.refl w7.heap.size w7).alloc (Nat.le_refl _) (.cells #[.int .i64 3, .int .i64 1] 27)
  have q0 := C7.cell 0
  have q1 := C7.cell 1
  have hlt := C7.lt
  simp at q0 q1
  have X8 := hide (X7.bel bel)
  clear X7 bel C7
  go_wp2_with fail
  clear q0 q1 hlt
  refine (waits_any b _ _ _ X8.out.ls).mono ?_
  rintro e w9 ⟨x, rfl, hx, -, hb9⟩
  obtain ⟨xa, xc, rfl, -, -⟩ := hx.shape
  have X9 := hide (X8.out.bel hb9)
  clear hx hb9 X8
  go_wp2
  go_ret
  refine ⟨rfl, ?_⟩
  refine hbl.out.trans (X9.out.kp.to_below hbl.out.size ?_)
  intro q hq
  simp at hq
  omega

end Go.Proofs.Ytapknlmplhjfeaa
