/- SameResult of a result of the program's and one that came in: by the program, by the document. -/
import Derived.Test.YtfnpapaibgbjpaaYK
namespace Go.Proofs.Ytfnpapaibgbjpaa
open Go.RowKit Go.Maps

/-- Are they the same? -/
def srV (e k e2 k2 : Int) (f f2 : Bool) (vb vb2 : List UInt8) (il il2 : List It) (zl zr : Bool) : Bool := (e == e2) && ((k == k2) && ((f == f2) && (zl && (zr && ((vb == vb2) && sameL il il2)))))
def srE (e k e2 k2 : Int) (f f2 : Bool) (vb vb2 : List UInt8) (il il2 : List It) (l r : Rf) : Bool := srV e k e2 k2 f f2 vb vb2 il il2 (zR l) (zR r)
theorem srV_e {e k e2 k2 : Int} {f f2 : Bool} {vb vb2 : List UInt8} {il il2 : List It} {zl zr : Bool} (h : (e == e2) = false) : srV e k e2 k2 f f2 vb vb2 il il2 zl zr = false := by unfold srV; rw [h]; rfl
theorem srV_k {e k e2 k2 : Int} {f f2 : Bool} {vb vb2 : List UInt8} {il il2 : List It} {zl zr : Bool} (h : (k == k2) = false) : srV e k e2 k2 f f2 vb vb2 il il2 zl zr = false := by unfold srV; rw [h]; simp
theorem srV_f {e k e2 k2 : Int} {f f2 : Bool} {vb vb2 : List UInt8} {il il2 : List It} {zl zr : Bool} (h : (f == f2) = false) : srV e k e2 k2 f f2 vb vb2 il il2 zl zr = false := by unfold srV; rw [h]; simp
theorem srV_l {e k e2 k2 : Int} {f f2 : Bool} {vb vb2 : List UInt8} {il il2 : List It} {zr : Bool} : srV e k e2 k2 f f2 vb vb2 il il2 false zr = false := by unfold srV; simp
theorem srV_r {e k e2 k2 : Int} {f f2 : Bool} {vb vb2 : List UInt8} {il il2 : List It} {zl : Bool} : srV e k e2 k2 f f2 vb vb2 il il2 zl false = false := by unfold srV; simp
theorem srV_b {e k e2 k2 : Int} {f f2 : Bool} {vb vb2 : List UInt8} {il il2 : List It} {zl zr : Bool} (h : (vb == vb2) = false) : srV e k e2 k2 f f2 vb vb2 il il2 zl zr = false := by unfold srV; rw [h]; simp
theorem srV_i {e k e2 k2 : Int} {f f2 : Bool} {vb vb2 : List UInt8} {il il2 : List It} {zl zr : Bool} (h : sameL il il2 = false) : srV e k e2 k2 f f2 vb vb2 il il2 zl zr = false := by unfold srV; rw [h]; simp
theorem srV_y {e k : Int} {f : Bool} {vb vb2 : List UInt8} {il il2 : List It} (hv : (vb == vb2) = true) (h : sameL il il2 = true) : srV e k e k f f vb vb2 il il2 true true = true := by unfold srV; rw [h, hv]; simp

set_option maxHeartbeats 2000000 in
set_option maxRecDepth 100000 in
theorem msr_any (e k e2 k2 : Int) (f f2 : Bool) (va va2 : Option Addr) (vc vc2 : Nat) (vb vb2 : List UInt8) (ia ia2 : Option Addr) (ic ic2 : Nat) (il il2 : List It) (l0 l1 l2 l3 l4 r0 r1 r2 r3 r4 : Int) (w : World) (h1 : Rd8 w va vb) (n1 : va = none → vc = 0) (h2 : Rd8 w va2 vb2) (n2 : va2 = none → vc2 = 0) (s1 : Sl w (.slice ia il.length ic) il) (s2 : SlX w ia2 ic2 il2) (hlen : il.length ≤ 100000) :
    Calls Try.prog 26 #[.agg #[.int .i64 e, .int .u64 k, .slice va vb.length vc, .slice ia il.length ic, .int .i64 0, .int .i64 0, .int .u64 0, .int .i64 0, .int .u64 0, .int .i64 0, .int .i64 0, .int .u64 0, .int .i64 0, .int .u64 0, .bool f], .agg #[.int .i64 e2, .int .u64 k2, .slice va2 vb2.length vc2, .slice ia2 il2.length ic2, .int .i64 l0, .int .i64 l1, .int .u64 l2, .int .i64 l3, .int .u64 l4, .int .i64 r0, .int .i64 r1, .int .u64 r2, .int .i64 r3, .int .u64 r4, .bool f2]] w fun E w' => E = .returned (.bool (srE e k e2 k2 f f2 vb vb2 il il2 (l0, l1, l2, l3, l4) (r0, r1, r2, r3, r4))) ∧ Below w.heap.size w w' := by
  obtain ⟨vn, hvn⟩ : ∃ z, vb.length = z := ⟨_, rfl⟩
  obtain ⟨vn2, hvn2⟩ : ∃ z, vb2.length = z := ⟨_, rfl⟩
  obtain ⟨inn, hin⟩ : ∃ z, il.length = z := ⟨_, rfl⟩
  obtain ⟨inn2, hin2⟩ : ∃ z, il2.length = z := ⟨_, rfl⟩
  unfold srE
  have b0 := ((Below.refl w.heap.size w).alloc (Nat.le_refl _) (.cells #[.int .i64 e, .int .u64 k, .slice va vb.length vc, .slice ia il.length ic, .int .i64 0, .int .i64 0, .int .u64 0, .int .i64 0, .int .u64 0, .int .i64 0, .int .i64 0, .int .u64 0, .int .i64 0, .int .u64 0, .bool f] 46)).alloc (by simp) (.cells #[.int .i64 e2, .int .u64 k2, .slice va2 vb2.length vc2, .slice ia2 il2.length ic2, .int .i64 l0, .int .i64 l1, .int .u64 l2, .int .i64 l3, .int .u64 l4, .int .i64 r0, .int .i64 r1, .int .u64 r2, .int .i64 r3, .int .u64 r4, .bool f2] 46)
  have EQ := equal_any va va2 vc vc2 vb vb2 _ (h1.below b0) n1 (h2.below b0) n2
  have SM := sameX _ il il2 ia2 ic2 hlen _ (s1.below b0) (s2.below b0)
  rw [hvn, hvn2, hin, hin2] at EQ SM
  rw [hvn, hvn2, hin, hin2]
  clear b0
  replace EQ := hide EQ
  replace SM := hide SM
  clear h1 h2 n1 n2 s1 s2 hlen hvn hvn2 hin hin2
  have b2 := ((Below.refl w.heap.size w).alloc (Nat.le_refl _) (.cells #[.int .i64 e, .int .u64 k, .slice va vn vc, .slice ia inn ic, .int .i64 0, .int .i64 0, .int .u64 0, .int .i64 0, .int .u64 0, .int .i64 0, .int .i64 0, .int .u64 0, .int .i64 0, .int .u64 0, .bool f] 46)).alloc (by simp) (.cells #[.int .i64 e2, .int .u64 k2, .slice va2 vn2 vc2, .slice ia2 inn2 ic2, .int .i64 l0, .int .i64 l1, .int .u64 l2, .int .i64 l3, .int .u64 l4, .int .i64 r0, .int .i64 r1, .int .u64 r2, .int .i64 r3, .int .u64 r4, .bool f2] 46)
  have Vb : Hid (IsB ((w.alloc (.cells #[.int .i64 e, .int .u64 k, .slice va vn vc, .slice ia inn ic, .int .i64 0, .int .i64 0, .int .u64 0, .int .i64 0, .int .u64 0, .int .i64 0, .int .i64 0, .int .u64 0, .int .i64 0, .int .u64 0, .bool f] 46)).alloc (.cells #[.int .i64 e2, .int .u64 k2, .slice va2 vn2 vc2, .slice ia2 inn2 ic2, .int .i64 l0, .int .i64 l1, .int .u64 l2, .int .i64 l3, .int .u64 l4, .int .i64 r0, .int .i64 r1, .int .u64 r2, .int .i64 r3, .int .u64 r4, .bool f2] 46)) w.heap.size #[.int .i64 e, .int .u64 k, .slice va vn vc, .slice ia inn ic, .int .i64 0, .int .i64 0, .int .u64 0, .int .i64 0, .int .u64 0, .int .i64 0, .int .i64 0, .int .u64 0, .int .i64 0, .int .u64 0, .bool f] 46) := (IsB.new w #[.int .i64 e, .int .u64 k, .slice va vn vc, .slice ia inn ic, .int .i64 0, .int .i64 0, .int .u64 0, .int .i64 0, .int .u64 0, .int .i64 0, .int .i64 0, .int .u64 0, .int .i64 0, .int .u64 0, .bool f] _).below ((Below.refl _ _).alloc (Nat.le_refl _) _)
  have Wb : Hid (IsB ((w.alloc (.cells #[.int .i64 e, .int .u64 k, .slice va vn vc, .slice ia inn ic, .int .i64 0, .int .i64 0, .int .u64 0, .int .i64 0, .int .u64 0, .int .i64 0, .int .i64 0, .int .u64 0, .int .i64 0, .int .u64 0, .bool f] 46)).alloc (.cells #[.int .i64 e2, .int .u64 k2, .slice va2 vn2 vc2, .slice ia2 inn2 ic2, .int .i64 l0, .int .i64 l1, .int .u64 l2, .int .i64 l3, .int .u64 l4, .int .i64 r0, .int .i64 r1, .int .u64 r2, .int .i64 r3, .int .u64 r4, .bool f2] 46)) (w.heap.size + 1) #[.int .i64 e2, .int .u64 k2, .slice va2 vn2 vc2, .slice ia2 inn2 ic2, .int .i64 l0, .int .i64 l1, .int .u64 l2, .int .i64 l3, .int .u64 l4, .int .i64 r0, .int .i64 r1, .int .u64 r2, .int .i64 r3, .int .u64 r4, .bool f2] 46) := by
    have := IsB.new (w.alloc (.cells #[.int .i64 e, .int .u64 k, .slice va vn vc, .slice ia inn ic, .int .i64 0, .int .i64 0, .int .u64 0, .int .i64 0, .int .u64 0, .int .i64 0, .int .i64 0, .int .u64 0, .int .i64 0, .int .u64 0, .bool f] 46)) #[.int .i64 e2, .int .u64 k2, .slice va2 vn2 vc2, .slice ia2 inn2 ic2, .int .i64 l0, .int .i64 l1, .int .u64 l2, .int .i64 l3, .int .u64 l4, .int .i64 r0, .int .i64 r1, .int .u64 r2, .int .i64 r3, .int .u64 r4, .bool f2] 46
    rwa [World.size_alloc] at this
  have B2 := hide b2
  have hrl := eqz l0 l1 l2 l3 l4
  have hrr := eqz r0 r1 r2 r3 r4
  clear b2
  have y0 := Vb.out.cell 0
  have y1 := Vb.out.cell 1
  have y2 := Vb.out.cell 2
  have y3 := Vb.out.cell 3
  have y4 := Vb.out.cell 4
  have y5 := Vb.out.cell 5
  have y6 := Vb.out.cell 6
  have y7 := Vb.out.cell 7
  have y8 := Vb.out.cell 8
  have y9 := Vb.out.cell 9
  have y10 := Vb.out.cell 10
  have y11 := Vb.out.cell 11
  have y12 := Vb.out.cell 12
  have y13 := Vb.out.cell 13
  have y14 := Vb.out.cell 14
  simp at y0 y1 y2 y3 y4 y5 y6 y7 y8 y9 y10 y11 y12 y13 y14
  have z0 := Wb.out.cell 0
  have z1 := Wb.out.cell 1
  have z2 := Wb.out.cell 2
  have z3 := Wb.out.cell 3
  have z4 := Wb.out.cell 4
  have z5 := Wb.out.cell 5
  have z6 := Wb.out.cell 6
  have z7 := Wb.out.cell 7
  have z8 := Wb.out.cell 8
  have z9 := Wb.out.cell 9
  have z10 := Wb.out.cell 10
  have z11 := Wb.out.cell 11
  have z12 := Wb.out.cell 12
  have z13 := Wb.out.cell 13
  have z14 := Wb.out.cell 14
  simp at z0 z1 z2 z3 z4 z5 z6 z7 z8 z9 z10 z11 z12 z13 z14
  generalize hZL : zR (l0, l1, l2, l3, l4) = ZL at hrl ⊢
  generalize hZR : zR (r0, r1, r2, r3, r4) = ZR at hrr ⊢
  replace hZL := hide hZL
  replace hZR := hide hZR
  by_cases hc : e = e2
  rotate_left
  · have hcb : (e == e2) = false := by simpa using hc
    rw [srV_e hcb]
    clear EQ SM
    go_enter Try.func26, Try.ntmps26
    go_wp2
    go_ret
    exact ⟨rfl, B2.out⟩
  subst hc
  by_cases hc : k = k2
  rotate_left
  · have hcb : (k == k2) = false := by simpa using hc
    rw [srV_k hcb]
    clear EQ SM
    go_enter Try.func26, Try.ntmps26
    go_wp2
    go_ret
    exact ⟨rfl, B2.out⟩
  subst hc
  by_cases hc : f = f2
  rotate_left
  · have hcb : (f == f2) = false := by simpa using hc
    rw [srV_f hcb]
    clear EQ SM
    go_enter Try.func26, Try.ntmps26
    go_wp2
    go_ret
    exact ⟨rfl, B2.out⟩
  subst hc
  cases ZL with
  | false =>
    rw [srV_l]
    clear EQ SM
    go_enter Try.func26, Try.ntmps26
    go_wp2
    go_ret
    exact ⟨rfl, B2.out⟩
  | true =>
  cases ZR with
  | false =>
    rw [srV_r]
    clear EQ SM
    go_enter Try.func26, Try.ntmps26
    go_wp2
    go_ret
    exact ⟨rfl, B2.out⟩
  | true =>
  cases hvv : (vb == vb2) with
  | false =>
    rw [srV_b hvv]
    rw [hvv] at EQ
    clear SM
    go_enter Try.func26, Try.ntmps26
    go_wp2_with fail
    refine EQ.out.mono ?_
    intro E w3 hE
    obtain ⟨rfl, hw3⟩ := hE
    rw [hw3]
    go_wp2
    go_ret
    exact ⟨rfl, B2.out⟩
  | true =>
  rw [hvv] at EQ
  cases hii : sameL il il2 with
  | false =>
    rw [srV_i hii]
    rw [hii] at SM
    go_enter Try.func26, Try.ntmps26
    go_wp2_with fail
    refine EQ.out.mono ?_
    intro E w3 hE
    obtain ⟨rfl, hw3⟩ := hE
    rw [hw3]
    go_wp2_with fail
    refine SM.out.mono ?_
    rintro E w4 ⟨rfl, hb⟩
    replace B2 := hide (B2.out.trans (hb.mono B2.out.size))
    clear hb
    go_wp2
    go_ret
    exact ⟨rfl, B2.out⟩
  | true =>
    rw [srV_y hvv hii]
    rw [hii] at SM
    go_enter Try.func26, Try.ntmps26
    go_wp2_with fail
    refine EQ.out.mono ?_
    intro E w3 hE
    obtain ⟨rfl, hw3⟩ := hE
    rw [hw3]
    go_wp2_with fail
    refine SM.out.mono ?_
    rintro E w4 ⟨rfl, hb⟩
    replace B2 := hide (B2.out.trans (hb.mono B2.out.size))
    clear hb
    go_wp2
    go_ret
    exact ⟨rfl, B2.out⟩

end Go.Proofs.Ytfnpapaibgbjpaa
