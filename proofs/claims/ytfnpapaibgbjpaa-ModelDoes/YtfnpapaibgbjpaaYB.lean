/- The document's SameResult of two results that say the same. -/
import Derived.Test.YtfnpapaibgbjpaaYA
namespace Go.Proofs.Ytfnpapaibgbjpaa
open Go.RowKit Go.Maps

theorem refz_eq (w : World) : (binOp .eql 44 (.agg #[.int .i64 0, .int .i64 0, .int .u64 0, .int .i64 0, .int .u64 0]) (.agg #[.int .i64 0, .int .i64 0, .int .u64 0, .int .i64 0, .int .u64 0])).run Try.prog w = .ok (.bool true) w := by kernel_rfl

set_option maxHeartbeats 1600000 in
set_option maxRecDepth 100000 in
theorem sameR_any (e k : Int) (f : Bool) (va va2 : Option Addr) (vc vc2 : Nat) (vb : List UInt8) (ia ia2 : Option Addr) (ic ic2 : Nat) (il il2 : List It) (w : World) (h1 : Rd8 w va vb) (n1 : va = none → vc = 0) (h2 : Rd8 w va2 vb) (n2 : va2 = none → vc2 = 0) (s1 : Sl w (.slice ia il.length ic) il) (s2 : Sl w (.slice ia2 il2.length ic2) il2) (hil : il.map It.val = il2.map It.val) (hlen : il.length ≤ 100000) :
    Calls Try.prog 23 #[.agg #[.int .i64 e, .int .u64 k, .slice va vb.length vc, .slice ia il.length ic, .int .i64 0, .int .i64 0, .int .u64 0, .int .i64 0, .int .u64 0, .int .i64 0, .int .i64 0, .int .u64 0, .int .i64 0, .int .u64 0, .bool f], .agg #[.int .i64 e, .int .u64 k, .slice va2 vb.length vc2, .slice ia2 il2.length ic2, .int .i64 0, .int .i64 0, .int .u64 0, .int .i64 0, .int .u64 0, .int .i64 0, .int .i64 0, .int .u64 0, .int .i64 0, .int .u64 0, .bool f]] w fun e w' => e = .returned (.bool true) ∧ Below w.heap.size w w' := by
  have hsl : Hid (sameL il il2 = true) := by show _ = _; unfold sameL; rw [beq_iff_eq]; exact hil
  obtain ⟨vn, hvn⟩ : ∃ z, vb.length = z := ⟨_, rfl⟩
  obtain ⟨inn, hin⟩ : ∃ z, il.length = z := ⟨_, rfl⟩
  obtain ⟨inn2, hin2⟩ : ∃ z, il2.length = z := ⟨_, rfl⟩
  obtain ⟨T1, e1, t1⟩ := conv_S h1 n1
  obtain ⟨T2, e2, t2⟩ := conv_S h2 n2
  have hTe : T1.toList = T2.toList := by rw [e1, e2]
  rw [hvn] at t1 t2
  rw [hvn, hin, hin2]
  have b2 := ((Below.refl w.heap.size w).alloc (Nat.le_refl _) (.cells #[.int .i64 e, .int .u64 k, .slice va vn vc, .slice ia inn ic, .int .i64 0, .int .i64 0, .int .u64 0, .int .i64 0, .int .u64 0, .int .i64 0, .int .i64 0, .int .u64 0, .int .i64 0, .int .u64 0, .bool f] 46)).alloc (by simp) (.cells #[.int .i64 e, .int .u64 k, .slice va2 vn vc2, .slice ia2 inn2 ic2, .int .i64 0, .int .i64 0, .int .u64 0, .int .i64 0, .int .u64 0, .int .i64 0, .int .i64 0, .int .u64 0, .int .i64 0, .int .u64 0, .bool f] 46)
  have Vb : Hid (IsB ((w.alloc (.cells #[.int .i64 e, .int .u64 k, .slice va vn vc, .slice ia inn ic, .int .i64 0, .int .i64 0, .int .u64 0, .int .i64 0, .int .u64 0, .int .i64 0, .int .i64 0, .int .u64 0, .int .i64 0, .int .u64 0, .bool f] 46)).alloc (.cells #[.int .i64 e, .int .u64 k, .slice va2 vn vc2, .slice ia2 inn2 ic2, .int .i64 0, .int .i64 0, .int .u64 0, .int .i64 0, .int .u64 0, .int .i64 0, .int .i64 0, .int .u64 0, .int .i64 0, .int .u64 0, .bool f] 46)) w.heap.size #[.int .i64 e, .int .u64 k, .slice va vn vc, .slice ia inn ic, .int .i64 0, .int .i64 0, .int .u64 0, .int .i64 0, .int .u64 0, .int .i64 0, .int .i64 0, .int .u64 0, .int .i64 0, .int .u64 0, .bool f] 46) := (IsB.new w #[.int .i64 e, .int .u64 k, .slice va vn vc, .slice ia inn ic, .int .i64 0, .int .i64 0, .int .u64 0, .int .i64 0, .int .u64 0, .int .i64 0, .int .i64 0, .int .u64 0, .int .i64 0, .int .u64 0, .bool f] _).below ((Below.refl _ _).alloc (Nat.le_refl _) _)
  have Wb : Hid (IsB ((w.alloc (.cells #[.int .i64 e, .int .u64 k, .slice va vn vc, .slice ia inn ic, .int .i64 0, .int .i64 0, .int .u64 0, .int .i64 0, .int .u64 0, .int .i64 0, .int .i64 0, .int .u64 0, .int .i64 0, .int .u64 0, .bool f] 46)).alloc (.cells #[.int .i64 e, .int .u64 k, .slice va2 vn vc2, .slice ia2 inn2 ic2, .int .i64 0, .int .i64 0, .int .u64 0, .int .i64 0, .int .u64 0, .int .i64 0, .int .i64 0, .int .u64 0, .int .i64 0, .int .u64 0, .bool f] 46)) (w.heap.size + 1) #[.int .i64 e, .int .u64 k, .slice va2 vn vc2, .slice ia2 inn2 ic2, .int .i64 0, .int .i64 0, .int .u64 0, .int .i64 0, .int .u64 0, .int .i64 0, .int .i64 0, .int .u64 0, .int .i64 0, .int .u64 0, .bool f] 46) := by
    have := IsB.new (w.alloc (.cells #[.int .i64 e, .int .u64 k, .slice va vn vc, .slice ia inn ic, .int .i64 0, .int .i64 0, .int .u64 0, .int .i64 0, .int .u64 0, .int .i64 0, .int .i64 0, .int .u64 0, .int .i64 0, .int .u64 0, .bool f] 46)) #[.int .i64 e, .int .u64 k, .slice va2 vn vc2, .slice ia2 inn2 ic2, .int .i64 0, .int .i64 0, .int .u64 0, .int .i64 0, .int .u64 0, .int .i64 0, .int .i64 0, .int .u64 0, .int .i64 0, .int .u64 0, .bool f] 46
    rwa [World.size_alloc] at this
  have SM := rsame_any _ _ il il2 hlen _ (s1.below b2) (s2.below b2)
  rw [hsl.out, hin, hin2] at SM
  replace SM := hide SM
  have x1 := t1 _ b2
  have x2 := t2 _ b2
  have B2 := hide b2
  have hrz := refz_eq
  clear h1 h2 n1 n2 s1 s2 hil hlen hvn hin hin2 e1 e2 t1 t2 b2 hsl
  have y0 := Vb.out.cell 0
  have y1 := Vb.out.cell 1
  have y2 := Vb.out.cell 2
  have y3 := Vb.out.cell 3
  have y4 := Vb.out.cell 4
  have y5 := Vb.out.cell 5
  have y6 := Vb.out.cell 6
  have y7 := Vb.out.cell 7
  have y8 := Vb.out.cell 8
  have y9 := Vb.out.cell 9
  have y10 := Vb.out.cell 10
  have y11 := Vb.out.cell 11
  have y12 := Vb.out.cell 12
  have y13 := Vb.out.cell 13
  have y14 := Vb.out.cell 14
  simp at y0 y1 y2 y3 y4 y5 y6 y7 y8 y9 y10 y11 y12 y13 y14
  have z0 := Wb.out.cell 0
  have z1 := Wb.out.cell 1
  have z2 := Wb.out.cell 2
  have z3 := Wb.out.cell 3
  have z4 := Wb.out.cell 4
  have z5 := Wb.out.cell 5
  have z6 := Wb.out.cell 6
  have z7 := Wb.out.cell 7
  have z8 := Wb.out.cell 8
  have z9 := Wb.out.cell 9
  have z10 := Wb.out.cell 10
  have z11 := Wb.out.cell 11
  have z12 := Wb.out.cell 12
  have z13 := Wb.out.cell 13
  have z14 := Wb.out.cell 14
  simp at z0 z1 z2 z3 z4 z5 z6 z7 z8 z9 z10 z11 z12 z13 z14
  go_enter Try.func23, Try.ntmps23
  go_wp2_with fail
  generalize ((w.alloc (.cells #[.int .i64 e, .int .u64 k, .slice va vn vc, .slice ia inn ic, .int .i64 0, .int .i64 0, .int .u64 0, .int .i64 0, .int .u64 0, .int .i64 0, .int .i64 0, .int .u64 0, .int .i64 0, .int .u64 0, .bool f] 46)).alloc (.cells #[.int .i64 e, .int .u64 k, .slice va2 vn vc2, .slice ia2 inn2 ic2, .int .i64 0, .int .i64 0, .int .u64 0, .int .i64 0, .int .u64 0, .int .i64 0, .int .i64 0, .int .u64 0, .int .i64 0, .int .u64 0, .bool f] 46)) = W2 at *
  generalize hH : w.heap.size = H at Vb Wb ⊢
  refine SM.out.mono ?_
  rintro e w3 ⟨rfl, hb⟩
  replace Vb := hide (Vb.out.below hb)
  replace Wb := hide (Wb.out.below hb)
  replace B2 := hide (B2.out.trans (hb.mono B2.out.size))
  clear hb SM x1 x2 y0 z0 y1 z1 y2 z2 y3 z3 y4 z4 y5 z5 y6 z6 y7 z7 y8 z8 y9 z9 y10 z10 y11 z11 y12 z12 y13 z13 y14 z14
  have y0 := Vb.out.cell 0
  have y1 := Vb.out.cell 1
  have y2 := Vb.out.cell 2
  have y3 := Vb.out.cell 3
  have y4 := Vb.out.cell 4
  have y5 := Vb.out.cell 5
  have y6 := Vb.out.cell 6
  have y7 := Vb.out.cell 7
  have y8 := Vb.out.cell 8
  have y9 := Vb.out.cell 9
  have y10 := Vb.out.cell 10
  have y11 := Vb.out.cell 11
  have y12 := Vb.out.cell 12
  have y13 := Vb.out.cell 13
  have y14 := Vb.out.cell 14
  simp at y0 y1 y2 y3 y4 y5 y6 y7 y8 y9 y10 y11 y12 y13 y14
  have z0 := Wb.out.cell 0
  have z1 := Wb.out.cell 1
  have z2 := Wb.out.cell 2
  have z3 := Wb.out.cell 3
  have z4 := Wb.out.cell 4
  have z5 := Wb.out.cell 5
  have z6 := Wb.out.cell 6
  have z7 := Wb.out.cell 7
  have z8 := Wb.out.cell 8
  have z9 := Wb.out.cell 9
  have z10 := Wb.out.cell 10
  have z11 := Wb.out.cell 11
  have z12 := Wb.out.cell 12
  have z13 := Wb.out.cell 13
  have z14 := Wb.out.cell 14
  simp at z0 z1 z2 z3 z4 z5 z6 z7 z8 z9 z10 z11 z12 z13 z14
  go_wp2
  go_ret
  exact ⟨rfl, B2.out⟩

end Go.Proofs.Ytfnpapaibgbjpaa
