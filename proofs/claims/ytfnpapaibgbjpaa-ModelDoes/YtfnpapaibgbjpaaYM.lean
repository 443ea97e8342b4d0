/- The document's SameResult of a result of the program's and one that came in. -/
import Derived.Test.YtfnpapaibgbjpaaYL
namespace Go.Proofs.Ytfnpapaibgbjpaa
open Go.RowKit Go.Maps


set_option maxHeartbeats 2000000 in
set_option maxRecDepth 100000 in
theorem rsr_any (e k e2 k2 : Int) (f f2 : Bool) (va va2 : Option Addr) (vc vc2 : Nat) (vb vb2 : List UInt8) (ia ia2 : Option Addr) (ic ic2 : Nat) (il il2 : List It) (l0 l1 l2 l3 l4 r0 r1 r2 r3 r4 : Int) (w : World) (h1 : Rd8 w va vb) (n1 : va = none → vc = 0) (h2 : Rd8 w va2 vb2) (n2 : va2 = none → vc2 = 0) (s1 : Sl w (.slice ia il.length ic) il) (s2 : SlX w ia2 ic2 il2) (hlen : il.length ≤ 100000) :
    Calls Try.prog 23 #[.agg #[.int .i64 e, .int .u64 k, .slice va vb.length vc, .slice ia il.length ic, .int .i64 0, .int .i64 0, .int .u64 0, .int .i64 0, .int .u64 0, .int .i64 0, .int .i64 0, .int .u64 0, .int .i64 0, .int .u64 0, .bool f], .agg #[.int .i64 e2, .int .u64 k2, .slice va2 vb2.length vc2, .slice ia2 il2.length ic2, .int .i64 l0, .int .i64 l1, .int .u64 l2, .int .i64 l3, .int .u64 l4, .int .i64 r0, .int .i64 r1, .int .u64 r2, .int .i64 r3, .int .u64 r4, .bool f2]] w fun E w' => E = .returned (.bool (srE e k e2 k2 f f2 vb vb2 il il2 (l0, l1, l2, l3, l4) (r0, r1, r2, r3, r4))) ∧ Below w.heap.size w w' := by
  obtain ⟨vn, hvn⟩ : ∃ z, vb.length = z := ⟨_, rfl⟩
  obtain ⟨vn2, hvn2⟩ : ∃ z, vb2.length = z := ⟨_, rfl⟩
  obtain ⟨inn, hin⟩ : ∃ z, il.length = z := ⟨_, rfl⟩
  obtain ⟨inn2, hin2⟩ : ∃ z, il2.length = z := ⟨_, rfl⟩
  unfold srE
  have b0 := ((Below.refl w.heap.size w).alloc (Nat.le_refl _) (.cells #[.int .i64 e, .int .u64 k, .slice va vb.length vc, .slice ia il.length ic, .int .i64 0, .int .i64 0, .int .u64 0, .int .i64 0, .int .u64 0, .int .i64 0, .int .i64 0, .int .u64 0, .int .i64 0, .int .u64 0, .bool f] 46)).alloc (by simp) (.cells #[.int .i64 e2, .int .u64 k2, .slice va2 vb2.length vc2, .slice ia2 il2.length ic2, .int .i64 l0, .int .i64 l1, .int .u64 l2, .int .i64 l3, .int .u64 l4, .int .i64 r0, .int .i64 r1, .int .u64 r2, .int .i64 r3, .int .u64 r4, .bool f2] 46)
  obtain ⟨T1, e1, t1⟩ := conv_S h1 n1
  obtain ⟨T2, e3, t2⟩ := conv_S h2 n2
  have x1 := t1 _ b0
  have x2 := t2 _ b0
  have SM := rsameX _ il il2 ia2 ic2 hlen _ (s1.below b0) (s2.below b0)
  rw [hvn, hvn2, hin, hin2] at x1 x2 SM
  rw [hvn, hvn2, hin, hin2]
  have hTT : Hid ((T1.toList == T2.toList) = (vb == vb2)) := by rw [e1, e3]; rfl
  clear b0 t1 t2 e1 e3
  replace SM := hide SM
  clear h1 h2 n1 n2 s1 s2 hlen hvn hvn2 hin hin2
  have b2 := ((Below.refl w.heap.size w).alloc (Nat.le_refl _) (.cells #[.int .i64 e, .int .u64 k, .slice va vn vc, .slice ia inn ic, .int .i64 0, .int .i64 0, .int .u64 0, .int .i64 0, .int .u64 0, .int .i64 0, .int .i64 0, .int .u64 0, .int .i64 0, .int .u64 0, .bool f] 46)).alloc (by simp) (.cells #[.int .i64 e2, .int .u64 k2, .slice va2 vn2 vc2, .slice ia2 inn2 ic2, .int .i64 l0, .int .i64 l1, .int .u64 l2, .int .i64 l3, .int .u64 l4, .int .i64 r0, .int .i64 r1, .int .u64 r2, .int .i64 r3, .int .u64 r4, .bool f2] 46)
  have Vb : Hid (IsB ((w.alloc (.cells #[.int .i64 e, .int .u64 k, .slice va vn vc, .slice ia inn ic, .int .i64 0, .int .i64 0, .int .u64 0, .int .i64 0, .int .u64 0, .int .i64 0, .int .i64 0, .int .u64 0, .int .i64 0, .int .u64 0, .bool f] 46)).alloc (.cells #[.int .i64 e2, .int .u64 k2, .slice va2 vn2 vc2, .slice ia2 inn2 ic2, .int .i64 l0, .int .i64 l1, .int .u64 l2, .int .i64 l3, .int .u64 l4, .int .i64 r0, .int .i64 r1, .int .u64 r2, .int .i64 r3, .int .u64 r4, .bool f2] 46)) w.heap.size #[.int .i64 e, .int .u64 k, .slice va vn vc, .slice ia inn ic, .int .i64 0, .int .i64 0, .int .u64 0, .int .i64 0, .int .u64 0, .int .i64 0, .int .i64 0, .int .u64 0, .int .i64 0, .int .u64 0, .bool f] 46) := (IsB.new w #[.int .i64 e, .int .u64 k, .slice va vn vc, .slice ia inn ic, .int .i64 0, .int .i64 0, .int .u64 0, .int .i64 0, .int .u64 0, .int .i64 0, .int .i64 0, .int .u64 0, .int .i64 0, .int .u64 0, .bool f] _).below ((Below.refl _ _).alloc (Nat.le_refl _) _)
  have Wb : Hid (IsB ((w.alloc (.cells #[.int .i64 e, .int .u64 k, .slice va vn vc, .slice ia inn ic, .int .i64 0, .int .i64 0, .int .u64 0, .int .i64 0, .int .u64 0, .int .i64 0, .int .i64 0, .int .u64 0, .int .i64 0, .int .u64 0, .bool f] 46)).alloc (.cells #[.int .i64 e2, .int .u64 k2, .slice va2 vn2 vc2, .slice ia2 inn2 ic2, .int .i64 l0, .int .i64 l1, .int .u64 l2, .int .i64 l3, .int .u64 l4, .int .i64 r0, .int .i64 r1, .int .u64 r2, .int .i64 r3, .int .u64 r4, .bool f2] 46)) (w.heap.size + 1) #[.int .i64 e2, .int .u64 k2, .slice va2 vn2 vc2, .slice ia2 inn2 ic2, .int .i64 l0, .int .i64 l1, .int .u64 l2, .int .i64 l3, .int .u64 l4, .int .i64 r0, .int .i64 r1, .int .u64 r2, .int .i64 r3, .int .u64 r4, .bool f2] 46) := by
    have := IsB.new (w.alloc (.cells #[.int .i64 e, .int .u64 k, .slice va vn vc, .slice ia inn ic, .int .i64 0, .int .i64 0, .int .u64 0, .int .i64 0, .int .u64 0, .int .i64 0, .int .i64 0, .int .u64 0, .int .i64 0, .int .u64 0, .bool f] 46)) #[.int .i64 e2, .int .u64 k2, .slice va2 vn2 vc2, .slice ia2 inn2 ic2, .int .i64 l0, .int .i64 l1, .int .u64 l2, .int .i64 l3, .int .u64 l4, .int .i64 r0, .int .i64 r1, .int .u64 r2, .int .i64 r3, .int .u64 r4, .bool f2] 46
    rwa [World.size_alloc] at this
  have B2 := hide b2
  have hrl := eqz l0 l1 l2 l3 l4
  have hrr := eqz r0 r1 r2 r3 r4
  clear b2
  have y0 := Vb.out.cell 0
  have y1 := Vb.out.cell 1
  have y2 := Vb.out.cell 2
  have y3 := Vb.out.cell 3
  have y4 := Vb.out.cell 4
  have y5 := Vb.out.cell 5
  have y6 := Vb.out.cell 6
  have y7 := Vb.out.cell 7
  have y8 := Vb.out.cell 8
  have y9 := Vb.out.cell 9
  have y10 := Vb.out.cell 10
  have y11 := Vb.out.cell 11
  have y12 := Vb.out.cell 12
  have y13 := Vb.out.cell 13
  have y14 := Vb.out.cell 14
  simp at y0 y1 y2 y3 y4 y5 y6 y7 y8 y9 y10 y11 y12 y13 y14
  have z0 := Wb.out.cell 0
  have z1 := Wb.out.cell 1
  have z2 := Wb.out.cell 2
  have z3 := Wb.out.cell 3
  have z4 := Wb.out.cell 4
  have z5 := Wb.out.cell 5
  have z6 := Wb.out.cell 6
  have z7 := Wb.out.cell 7
  have z8 := Wb.out.cell 8
  have z9 := Wb.out.cell 9
  have z10 := Wb.out.cell 10
  have z11 := Wb.out.cell 11
  have z12 := Wb.out.cell 12
  have z13 := Wb.out.cell 13
  have z14 := Wb.out.cell 14
  simp at z0 z1 z2 z3 z4 z5 z6 z7 z8 z9 z10 z11 z12 z13 z14
  generalize hZL : zR (l0, l1, l2, l3, l4) = ZL at hrl ⊢
  generalize hZR : zR (r0, r1, r2, r3, r4) = ZR at hrr ⊢
  replace hZL := hide hZL
  replace hZR := hide hZR
  by_cases hc : e = e2
  rotate_left
  · have hcb : (e == e2) = false := by simpa using hc
    rw [srV_e hcb]
    clear SM
    go_enter Try.func23, Try.ntmps23
    go_wp2
    go_ret
    exact ⟨rfl, B2.out⟩
  subst hc
  by_cases hc : k = k2
  rotate_left
  · have hcb : (k == k2) = false := by simpa using hc
    rw [srV_k hcb]
    clear SM
    go_enter Try.func23, Try.ntmps23
    go_wp2
    go_ret
    exact ⟨rfl, B2.out⟩
  subst hc
  cases hvv : (vb == vb2) with
  | false =>
    rw [srV_b hvv]
    have hT : (T1.toList == T2.toList) = false := by rw [hTT.out]; exact hvv
    have hT2 : ¬T1.toList = T2.toList := by simpa using hT
    clear SM
    go_enter Try.func23, Try.ntmps23
    go_wp2
    go_ret
    exact ⟨rfl, B2.out⟩
  | true =>
  have hTe : T1.toList = T2.toList := by
    have : (T1.toList == T2.toList) = true := by rw [hTT.out]; exact hvv
    simpa using this
  cases hii : sameL il il2 with
  | false =>
    rw [srV_i hii]
    rw [hii] at SM
    go_enter Try.func23, Try.ntmps23
    go_wp2_with fail
    refine SM.out.mono ?_
    rintro E w4 ⟨rfl, hb⟩
    replace B2 := hide (B2.out.trans (hb.mono B2.out.size))
    clear hb
    go_wp2
    go_ret
    exact ⟨rfl, B2.out⟩
  | true =>
  rw [hii] at SM
  cases ZL with
  | false =>
    rw [srV_l]
    go_enter Try.func23, Try.ntmps23
    go_wp2_with fail
    generalize ((w.alloc (.cells #[.int .i64 e, .int .u64 k, .slice va vn vc, .slice ia inn ic, .int .i64 0, .int .i64 0, .int .u64 0, .int .i64 0, .int .u64 0, .int .i64 0, .int .i64 0, .int .u64 0, .int .i64 0, .int .u64 0, .bool f] 46)).alloc (.cells #[.int .i64 e, .int .u64 k, .slice va2 vn2 vc2, .slice ia2 inn2 ic2, .int .i64 l0, .int .i64 l1, .int .u64 l2, .int .i64 l3, .int .u64 l4, .int .i64 r0, .int .i64 r1, .int .u64 r2, .int .i64 r3, .int .u64 r4, .bool f2] 46)) = W2 at *
    generalize hH : w.heap.size = H at Vb Wb ⊢
    refine SM.out.mono ?_
    rintro E w3 ⟨rfl, hb⟩
    replace Vb := hide (Vb.out.below hb)
    replace Wb := hide (Wb.out.below hb)
    replace B2 := hide (B2.out.trans (hb.mono B2.out.size))
    clear hb SM x1 x2 y0 z0 y1 z1 y2 z2 y3 z3 y4 z4 y5 z5 y6 z6 y7 z7 y8 z8 y9 z9 y10 z10 y11 z11 y12 z12 y13 z13 y14 z14
    have y0 := Vb.out.cell 0
    have y1 := Vb.out.cell 1
    have y2 := Vb.out.cell 2
    have y3 := Vb.out.cell 3
    have y4 := Vb.out.cell 4
    have y5 := Vb.out.cell 5
    have y6 := Vb.out.cell 6
    have y7 := Vb.out.cell 7
    have y8 := Vb.out.cell 8
    have y9 := Vb.out.cell 9
    have y10 := Vb.out.cell 10
    have y11 := Vb.out.cell 11
    have y12 := Vb.out.cell 12
    have y13 := Vb.out.cell 13
    have y14 := Vb.out.cell 14
    simp at y0 y1 y2 y3 y4 y5 y6 y7 y8 y9 y10 y11 y12 y13 y14
    have z0 := Wb.out.cell 0
    have z1 := Wb.out.cell 1
    have z2 := Wb.out.cell 2
    have z3 := Wb.out.cell 3
    have z4 := Wb.out.cell 4
    have z5 := Wb.out.cell 5
    have z6 := Wb.out.cell 6
    have z7 := Wb.out.cell 7
    have z8 := Wb.out.cell 8
    have z9 := Wb.out.cell 9
    have z10 := Wb.out.cell 10
    have z11 := Wb.out.cell 11
    have z12 := Wb.out.cell 12
    have z13 := Wb.out.cell 13
    have z14 := Wb.out.cell 14
    simp at z0 z1 z2 z3 z4 z5 z6 z7 z8 z9 z10 z11 z12 z13 z14
    go_wp2
    go_ret
    exact ⟨rfl, B2.out⟩
  | true =>
  cases ZR with
  | false =>
    rw [srV_r]
    go_enter Try.func23, Try.ntmps23
    go_wp2_with fail
    generalize ((w.alloc (.cells #[.int .i64 e, .int .u64 k, .slice va vn vc, .slice ia inn ic, .int .i64 0, .int .i64 0, .int .u64 0, .int .i64 0, .int .u64 0, .int .i64 0, .int .i64 0, .int .u64 0, .int .i64 0, .int .u64 0, .bool f] 46)).alloc (.cells #[.int .i64 e, .int .u64 k, .slice va2 vn2 vc2, .slice ia2 inn2 ic2, .int .i64 l0, .int .i64 l1, .int .u64 l2, .int .i64 l3, .int .u64 l4, .int .i64 r0, .int .i64 r1, .int .u64 r2, .int .i64 r3, .int .u64 r4, .bool f2] 46)) = W2 at *
    generalize hH : w.heap.size = H at Vb Wb ⊢
    refine SM.out.mono ?_
    rintro E w3 ⟨rfl, hb⟩
    replace Vb := hide (Vb.out.below hb)
    replace Wb := hide (Wb.out.below hb)
    replace B2 := hide (B2.out.trans (hb.mono B2.out.size))
    clear hb SM x1 x2 y0 z0 y1 z1 y2 z2 y3 z3 y4 z4 y5 z5 y6 z6 y7 z7 y8 z8 y9 z9 y10 z10 y11 z11 y12 z12 y13 z13 y14 z14
    have y0 := Vb.out.cell 0
    have y1 := Vb.out.cell 1
    have y2 := Vb.out.cell 2
    have y3 := Vb.out.cell 3
    have y4 := Vb.out.cell 4
    have y5 := Vb.out.cell 5
    have y6 := Vb.out.cell 6
    have y7 := Vb.out.cell 7
    have y8 := Vb.out.cell 8
    have y9 := Vb.out.cell 9
    have y10 := Vb.out.cell 10
    have y11 := Vb.out.cell 11
    have y12 := Vb.out.cell 12
    have y13 := Vb.out.cell 13
    have y14 := Vb.out.cell 14
    simp at y0 y1 y2 y3 y4 y5 y6 y7 y8 y9 y10 y11 y12 y13 y14
    have z0 := Wb.out.cell 0
    have z1 := Wb.out.cell 1
    have z2 := Wb.out.cell 2
    have z3 := Wb.out.cell 3
    have z4 := Wb.out.cell 4
    have z5 := Wb.out.cell 5
    have z6 := Wb.out.cell 6
    have z7 := Wb.out.cell 7
    have z8 := Wb.out.cell 8
    have z9 := Wb.out.cell 9
    have z10 := Wb.out.cell 10
    have z11 := Wb.out.cell 11
    have z12 := Wb.out.cell 12
    have z13 := Wb.out.cell 13
    have z14 := Wb.out.cell 14
    simp at z0 z1 z2 z3 z4 z5 z6 z7 z8 z9 z10 z11 z12 z13 z14
    go_wp2
    go_ret
    exact ⟨rfl, B2.out⟩
  | true =>
  by_cases hc : f = f2
  · subst hc
    rw [srV_y hvv hii]
    go_enter Try.func23, Try.ntmps23
    go_wp2_with fail
    generalize ((w.alloc (.cells #[.int .i64 e, .int .u64 k, .slice va vn vc, .slice ia inn ic, .int .i64 0, .int .i64 0, .int .u64 0, .int .i64 0, .int .u64 0, .int .i64 0, .int .i64 0, .int .u64 0, .int .i64 0, .int .u64 0, .bool f] 46)).alloc (.cells #[.int .i64 e, .int .u64 k, .slice va2 vn2 vc2, .slice ia2 inn2 ic2, .int .i64 l0, .int .i64 l1, .int .u64 l2, .int .i64 l3, .int .u64 l4, .int .i64 r0, .int .i64 r1, .int .u64 r2, .int .i64 r3, .int .u64 r4, .bool f] 46)) = W2 at *
    generalize hH : w.heap.size = H at Vb Wb ⊢
    refine SM.out.mono ?_
    rintro E w3 ⟨rfl, hb⟩
    replace Vb := hide (Vb.out.below hb)
    replace Wb := hide (Wb.out.below hb)
    replace B2 := hide (B2.out.trans (hb.mono B2.out.size))
    clear hb SM x1 x2 y0 z0 y1 z1 y2 z2 y3 z3 y4 z4 y5 z5 y6 z6 y7 z7 y8 z8 y9 z9 y10 z10 y11 z11 y12 z12 y13 z13 y14 z14
    have y0 := Vb.out.cell 0
    have y1 := Vb.out.cell 1
    have y2 := Vb.out.cell 2
    have y3 := Vb.out.cell 3
    have y4 := Vb.out.cell 4
    have y5 := Vb.out.cell 5
    have y6 := Vb.out.cell 6
    have y7 := Vb.out.cell 7
    have y8 := Vb.out.cell 8
    have y9 := Vb.out.cell 9
    have y10 := Vb.out.cell 10
    have y11 := Vb.out.cell 11
    have y12 := Vb.out.cell 12
    have y13 := Vb.out.cell 13
    have y14 := Vb.out.cell 14
    simp at y0 y1 y2 y3 y4 y5 y6 y7 y8 y9 y10 y11 y12 y13 y14
    have z0 := Wb.out.cell 0
    have z1 := Wb.out.cell 1
    have z2 := Wb.out.cell 2
    have z3 := Wb.out.cell 3
    have z4 := Wb.out.cell 4
    have z5 := Wb.out.cell 5
    have z6 := Wb.out.cell 6
    have z7 := Wb.out.cell 7
    have z8 := Wb.out.cell 8
    have z9 := Wb.out.cell 9
    have z10 := Wb.out.cell 10
    have z11 := Wb.out.cell 11
    have z12 := Wb.out.cell 12
    have z13 := Wb.out.cell 13
    have z14 := Wb.out.cell 14
    simp at z0 z1 z2 z3 z4 z5 z6 z7 z8 z9 z10 z11 z12 z13 z14
    go_wp2
    go_ret
    exact ⟨rfl, B2.out⟩
  · have hcb : (f == f2) = false := by simpa using hc
    rw [srV_f hcb]
    go_enter Try.func23, Try.ntmps23
    go_wp2_with fail
    generalize ((w.alloc (.cells #[.int .i64 e, .int .u64 k, .slice va vn vc, .slice ia inn ic, .int .i64 0, .int .i64 0, .int .u64 0, .int .i64 0, .int .u64 0, .int .i64 0, .int .i64 0, .int .u64 0, .int .i64 0, .int .u64 0, .bool f] 46)).alloc (.cells #[.int .i64 e, .int .u64 k, .slice va2 vn2 vc2, .slice ia2 inn2 ic2, .int .i64 l0, .int .i64 l1, .int .u64 l2, .int .i64 l3, .int .u64 l4, .int .i64 r0, .int .i64 r1, .int .u64 r2, .int .i64 r3, .int .u64 r4, .bool f2] 46)) = W2 at *
    generalize hH : w.heap.size = H at Vb Wb ⊢
    refine SM.out.mono ?_
    rintro E w3 ⟨rfl, hb⟩
    replace Vb := hide (Vb.out.below hb)
    replace Wb := hide (Wb.out.below hb)
    replace B2 := hide (B2.out.trans (hb.mono B2.out.size))
    clear hb SM x1 x2 y0 z0 y1 z1 y2 z2 y3 z3 y4 z4 y5 z5 y6 z6 y7 z7 y8 z8 y9 z9 y10 z10 y11 z11 y12 z12 y13 z13 y14 z14
    have y0 := Vb.out.cell 0
    have y1 := Vb.out.cell 1
    have y2 := Vb.out.cell 2
    have y3 := Vb.out.cell 3
    have y4 := Vb.out.cell 4
    have y5 := Vb.out.cell 5
    have y6 := Vb.out.cell 6
    have y7 := Vb.out.cell 7
    have y8 := Vb.out.cell 8
    have y9 := Vb.out.cell 9
    have y10 := Vb.out.cell 10
    have y11 := Vb.out.cell 11
    have y12 := Vb.out.cell 12
    have y13 := Vb.out.cell 13
    have y14 := Vb.out.cell 14
    simp at y0 y1 y2 y3 y4 y5 y6 y7 y8 y9 y10 y11 y12 y13 y14
    have z0 := Wb.out.cell 0
    have z1 := Wb.out.cell 1
    have z2 := Wb.out.cell 2
    have z3 := Wb.out.cell 3
    have z4 := Wb.out.cell 4
    have z5 := Wb.out.cell 5
    have z6 := Wb.out.cell 6
    have z7 := Wb.out.cell 7
    have z8 := Wb.out.cell 8
    have z9 := Wb.out.cell 9
    have z10 := Wb.out.cell 10
    have z11 := Wb.out.cell 11
    have z12 := Wb.out.cell 12
    have z13 := Wb.out.cell 13
    have z14 := Wb.out.cell 14
    simp at z0 z1 z2 z3 z4 z5 z6 z7 z8 z9 z10 z11 z12 z13 z14
    go_wp2
    go_ret
    exact ⟨rfl, B2.out⟩

end Go.Proofs.Ytfnpapaibgbjpaa
