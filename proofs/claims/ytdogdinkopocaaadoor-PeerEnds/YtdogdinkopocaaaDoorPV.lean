/- PeerEnds: the law walked. -/
import Derived.Test.YtdogdinkopocaaaDoorPU
namespace Go.Proofs.YtdogdinkopocaaaDoor
open Go.RowKit Go.Maps

set_option maxHeartbeats 16000000 in
set_option maxRecDepth 100000 in
theorem peerEnds_walk (n en ht i0 i1 i2 i3 i4 : Int) (ba : Option Addr) (bc : Nat) (bl : List Int) (hn0 : ba = none → bc = 0) (hcap : bl.length ≤ bc) (hb : 0 ≤ i4) (w : World) (hr : Rd8 w ba bl) (hR : Ranks w) : Calls Tryd.prog 3 #[.int .i64 n, .agg #[.int .i64 en, .int .i64 ht, .int .i64 i0, .int .i64 i1, .int .u64 i2, .int .i64 i3, .int .u64 i4, .slice ba bl.length bc]] w fun e w' => e = .returned (.bool true) ∧ Below w.heap.size w w' := by
  by_cases hn : n < 0 ∨ 32 < n
  · have b1 : Below w.heap.size w (w.alloc (.cells #[.int .i64 en, .int .i64 ht, .int .i64 i0, .int .i64 i1, .int .u64 i2, .int .i64 i3, .int .u64 i4, .slice ba bl.length bc] 32)) := (Below.refl _ w).alloc (Nat.le_refl _) _
    have V := hide (IsB.new w #[.int .i64 en, .int .i64 ht, .int .i64 i0, .int .i64 i1, .int .u64 i2, .int .i64 i3, .int .u64 i4, .slice ba bl.length bc] 32)
    have B := hide b1
    have HR := hide (hR.below b1)
    clear b1 hR
    go_enter Tryd.func3, Tryd.ntmps3
    go_wp2_with fail
    generalize w.alloc (.cells #[.int .i64 en, .int .i64 ht, .int .i64 i0, .int .i64 i1, .int .u64 i2, .int .i64 i3, .int .u64 i4, .slice ba bl.length bc] 32) = W1 at V B HR ⊢
    generalize hH : w.heap.size = H at V ⊢
    replace hH := hide hH
    generalize hA0 : Value.agg #[.int .i64 en, .int .i64 ht, .int .i64 i0, .int .i64 i1, .int .u64 i2, .int .i64 i3, .int .u64 i4, .slice ba bl.length bc] = A0
    replace hA0 := hide hA0
    refine (head_bad n hn _).mono ?_; rintro e w2 ⟨rfl, b2⟩
    replace V := hide (V.out.below b2)
    replace HR := hide (HR.out.below b2)
    replace B := hide (B.out.trans (b2.mono B.out.size))
    clear b2
    have ba2 := (Below.refl w2.heap.size w2).alloc (Nat.le_refl _) (.cells #[.int .i64 0, .int .i64 0, .int .u64 0, .int .i64 0, .int .u64 0] 29)
    have P0 := hide (IsB.new w2 #[.int .i64 0, .int .i64 0, .int .u64 0, .int .i64 0, .int .u64 0] 29)
    replace V := hide (V.out.below ba2)
    replace HR := hide (HR.out.below ba2)
    replace B := hide (B.out.trans (ba2.mono B.out.size))
    clear ba2
    go_wp2_with fail
    generalize w2.alloc (.cells #[.int .i64 0, .int .i64 0, .int .u64 0, .int .i64 0, .int .u64 0] 29) = X0 at V HR B P0 ⊢
    generalize w2.heap.size = q0 at P0 ⊢
    refine (rhead_bad n hn _).mono ?_; rintro e w3 ⟨rfl, b2⟩
    replace V := hide (V.out.below b2)
    replace HR := hide (HR.out.below b2)
    replace P0 := hide (P0.out.below b2)
    replace B := hide (B.out.trans (b2.mono B.out.size))
    clear b2
    have ba2 := (Below.refl w3.heap.size w3).alloc (Nat.le_refl _) (.cells #[.int .i64 0, .int .i64 0, .int .u64 0, .int .i64 0, .int .u64 0] 29)
    have P1 := hide (IsB.new w3 #[.int .i64 0, .int .i64 0, .int .u64 0, .int .i64 0, .int .u64 0] 29)
    replace V := hide (V.out.below ba2)
    replace HR := hide (HR.out.below ba2)
    replace P0 := hide (P0.out.below ba2)
    replace B := hide (B.out.trans (ba2.mono B.out.size))
    clear ba2
    go_wp2_with fail
    generalize w3.alloc (.cells #[.int .i64 0, .int .i64 0, .int .u64 0, .int .i64 0, .int .u64 0] 29) = X1 at V HR B P0 P1 ⊢
    generalize w3.heap.size = q1 at P1 ⊢
    refine (tail_bad n hn _).mono ?_; rintro e w4 ⟨rfl, b2⟩
    replace V := hide (V.out.below b2)
    replace HR := hide (HR.out.below b2)
    replace P0 := hide (P0.out.below b2)
    replace P1 := hide (P1.out.below b2)
    replace B := hide (B.out.trans (b2.mono B.out.size))
    clear b2
    have ba2 := (Below.refl w4.heap.size w4).alloc (Nat.le_refl _) (.cells #[.int .i64 0, .int .i64 0, .int .u64 0, .int .i64 0, .int .u64 0] 29)
    have P2 := hide (IsB.new w4 #[.int .i64 0, .int .i64 0, .int .u64 0, .int .i64 0, .int .u64 0] 29)
    replace V := hide (V.out.below ba2)
    replace HR := hide (HR.out.below ba2)
    replace P0 := hide (P0.out.below ba2)
    replace P1 := hide (P1.out.below ba2)
    replace B := hide (B.out.trans (ba2.mono B.out.size))
    clear ba2
    go_wp2_with fail
    generalize w4.alloc (.cells #[.int .i64 0, .int .i64 0, .int .u64 0, .int .i64 0, .int .u64 0] 29) = X2 at V HR B P0 P1 P2 ⊢
    generalize w4.heap.size = q2 at P2 ⊢
    refine (rtail_bad n hn _).mono ?_; rintro e w5 ⟨rfl, b2⟩
    replace V := hide (V.out.below b2)
    replace HR := hide (HR.out.below b2)
    replace P0 := hide (P0.out.below b2)
    replace P1 := hide (P1.out.below b2)
    replace P2 := hide (P2.out.below b2)
    replace B := hide (B.out.trans (b2.mono B.out.size))
    clear b2
    have ba2 := (Below.refl w5.heap.size w5).alloc (Nat.le_refl _) (.cells #[.int .i64 0, .int .i64 0, .int .u64 0, .int .i64 0, .int .u64 0] 29)
    have P3 := hide (IsB.new w5 #[.int .i64 0, .int .i64 0, .int .u64 0, .int .i64 0, .int .u64 0] 29)
    replace V := hide (V.out.below ba2)
    replace HR := hide (HR.out.below ba2)
    replace P0 := hide (P0.out.below ba2)
    replace P1 := hide (P1.out.below ba2)
    replace P2 := hide (P2.out.below ba2)
    replace B := hide (B.out.trans (ba2.mono B.out.size))
    clear ba2
    have ld := hide (load_su V.out rfl)
    go_wp2_with (first | ((with_reducible refine wpList_load_w ?hw 32 (.tmp 3) ?ho ?hx ld.out ?h); (case ho => rfl); (case hw => rfl); (case hx => rfl)))
    clear ld
    generalize w5.alloc (.cells #[.int .i64 0, .int .i64 0, .int .u64 0, .int .i64 0, .int .u64 0] 29) = X3 at V HR B P0 P1 P2 P3 ⊢
    generalize w5.heap.size = q3 at P3 ⊢
    refine (made_any en ht i0 i1 i2 i3 i4 ba bc bl hn0 hcap hb _ (hr.below B.out) HR.out).mono ?_; rintro e w7 ⟨pv, rv, rfl, b2⟩
    replace HR := hide (HR.out.below b2)
    replace P0 := hide (P0.out.below b2)
    replace P1 := hide (P1.out.below b2)
    replace P2 := hide (P2.out.below b2)
    replace P3 := hide (P3.out.below b2)
    replace B := hide (B.out.trans (b2.mono B.out.size))
    clear b2
    have c00 : w7.cell? ⟨q0, 0, none⟩ = some (.int .i64 0) := P0.out.cell 0
    have c01 : w7.cell? ⟨q0, 1, none⟩ = some (.int .i64 0) := P0.out.cell 1
    have c02 : w7.cell? ⟨q0, 2, none⟩ = some (.int .u64 0) := P0.out.cell 2
    have c03 : w7.cell? ⟨q0, 3, none⟩ = some (.int .i64 0) := P0.out.cell 3
    have c04 : w7.cell? ⟨q0, 4, none⟩ = some (.int .u64 0) := P0.out.cell 4
    have c10 : w7.cell? ⟨q1, 0, none⟩ = some (.int .i64 0) := P1.out.cell 0
    have c11 : w7.cell? ⟨q1, 1, none⟩ = some (.int .i64 0) := P1.out.cell 1
    have c12 : w7.cell? ⟨q1, 2, none⟩ = some (.int .u64 0) := P1.out.cell 2
    have c13 : w7.cell? ⟨q1, 3, none⟩ = some (.int .i64 0) := P1.out.cell 3
    have c14 : w7.cell? ⟨q1, 4, none⟩ = some (.int .u64 0) := P1.out.cell 4
    have c20 : w7.cell? ⟨q2, 0, none⟩ = some (.int .i64 0) := P2.out.cell 0
    have c21 : w7.cell? ⟨q2, 1, none⟩ = some (.int .i64 0) := P2.out.cell 1
    have c22 : w7.cell? ⟨q2, 2, none⟩ = some (.int .u64 0) := P2.out.cell 2
    have c23 : w7.cell? ⟨q2, 3, none⟩ = some (.int .i64 0) := P2.out.cell 3
    have c24 : w7.cell? ⟨q2, 4, none⟩ = some (.int .u64 0) := P2.out.cell 4
    have c30 : w7.cell? ⟨q3, 0, none⟩ = some (.int .i64 0) := P3.out.cell 0
    have c31 : w7.cell? ⟨q3, 1, none⟩ = some (.int .i64 0) := P3.out.cell 1
    have c32 : w7.cell? ⟨q3, 2, none⟩ = some (.int .u64 0) := P3.out.cell 2
    have c33 : w7.cell? ⟨q3, 3, none⟩ = some (.int .i64 0) := P3.out.cell 3
    have c34 : w7.cell? ⟨q3, 4, none⟩ = some (.int .u64 0) := P3.out.cell 4
    have hgd : Hid (Tryd.prog.eqGuardType Tryd.prog.depth 29 = false) := by show Tryd.prog.eqGuardType Tryd.prog.depth 29 = false; kernel_rfl
    have heq1 : ∀ w, (binOp .eql 29 (.agg #[.int .i64 0, .int .i64 0, .int .u64 0, .int .i64 0, .int .u64 0]) (.agg #[.int .i64 0, .int .i64 0, .int .u64 0, .int .i64 0, .int .u64 0])).run Tryd.prog w = .ok (.bool true) w := fun w => by have := eqr 0 0 0 0 0 0 0 0 0 0 w; simpa using this
    have heq2 : ∀ w, (binOp .eql 29 (.agg #[.int .i64 0, .int .i64 0, .int .u64 0, .int .i64 0, .int .u64 0]) (.agg #[.int .i64 0, .int .i64 0, .int .u64 0, .int .i64 0, .int .u64 0])).run Tryd.prog w = .ok (.bool true) w := fun w => by have := eqr 0 0 0 0 0 0 0 0 0 0 w; simpa using this
    go_wp2_with (first | ((with_reducible refine wpList_bin_w .eql 29 (.tmp 42) (.tmp 43) 29 ?ho ?hw hgd.out ?hx ?hy (heq1 _) ?h); (case ho => rfl); (case hw => rfl); (case hx => rfl); (case hy => rfl)) | ((with_reducible refine wpList_bin_w .eql 29 (.tmp 51) (.tmp 52) 29 ?ho ?hw hgd.out ?hx ?hy (heq2 _) ?h); (case ho => rfl); (case hw => rfl); (case hx => rfl); (case hy => rfl)))
    refine (alive_any _ HR.out).mono ?_; rintro e w8 ⟨rfl, b2⟩
    replace B := hide (B.out.trans (b2.mono B.out.size))
    clear b2
    go_wp2
    go_ret
    exact ⟨rfl, B.out⟩
  · have h0 : 0 ≤ n := by omega
    have h1 : n ≤ 32 := by omega
    have b1 : Below w.heap.size w (w.alloc (.cells #[.int .i64 en, .int .i64 ht, .int .i64 i0, .int .i64 i1, .int .u64 i2, .int .i64 i3, .int .u64 i4, .slice ba bl.length bc] 32)) := (Below.refl _ w).alloc (Nat.le_refl _) _
    have V := hide (IsB.new w #[.int .i64 en, .int .i64 ht, .int .i64 i0, .int .i64 i1, .int .u64 i2, .int .i64 i3, .int .u64 i4, .slice ba bl.length bc] 32)
    have B := hide b1
    have HR := hide (hR.below b1)
    clear b1 hR
    go_enter Tryd.func3, Tryd.ntmps3
    go_wp2_with fail
    generalize w.alloc (.cells #[.int .i64 en, .int .i64 ht, .int .i64 i0, .int .i64 i1, .int .u64 i2, .int .i64 i3, .int .u64 i4, .slice ba bl.length bc] 32) = W1 at V B HR ⊢
    generalize hH : w.heap.size = H at V ⊢
    replace hH := hide hH
    generalize hA0 : Value.agg #[.int .i64 en, .int .i64 ht, .int .i64 i0, .int .i64 i1, .int .u64 i2, .int .i64 i3, .int .u64 i4, .slice ba bl.length bc] = A0
    replace hA0 := hide hA0
    refine (head_ok n h0 h1 _).mono ?_; rintro e w2 ⟨rfl, b2⟩
    replace V := hide (V.out.below b2)
    replace HR := hide (HR.out.below b2)
    replace B := hide (B.out.trans (b2.mono B.out.size))
    clear b2
    have ba2 := (Below.refl w2.heap.size w2).alloc (Nat.le_refl _) (.cells #[.int .i64 0, .int .i64 1, .int .u64 0, .int .i64 n, .int .u64 0] 29)
    have P0 := hide (IsB.new w2 #[.int .i64 0, .int .i64 1, .int .u64 0, .int .i64 n, .int .u64 0] 29)
    replace V := hide (V.out.below ba2)
    replace HR := hide (HR.out.below ba2)
    replace B := hide (B.out.trans (ba2.mono B.out.size))
    clear ba2
    go_wp2_with fail
    generalize w2.alloc (.cells #[.int .i64 0, .int .i64 1, .int .u64 0, .int .i64 n, .int .u64 0] 29) = X0 at V HR B P0 ⊢
    generalize w2.heap.size = q0 at P0 ⊢
    refine (rhead_ok n h0 h1 _).mono ?_; rintro e w3 ⟨rfl, b2⟩
    replace V := hide (V.out.below b2)
    replace HR := hide (HR.out.below b2)
    replace P0 := hide (P0.out.below b2)
    replace B := hide (B.out.trans (b2.mono B.out.size))
    clear b2
    have ba2 := (Below.refl w3.heap.size w3).alloc (Nat.le_refl _) (.cells #[.int .i64 0, .int .i64 1, .int .u64 0, .int .i64 n, .int .u64 0] 29)
    have P1 := hide (IsB.new w3 #[.int .i64 0, .int .i64 1, .int .u64 0, .int .i64 n, .int .u64 0] 29)
    replace V := hide (V.out.below ba2)
    replace HR := hide (HR.out.below ba2)
    replace P0 := hide (P0.out.below ba2)
    replace B := hide (B.out.trans (ba2.mono B.out.size))
    clear ba2
    go_wp2_with fail
    generalize w3.alloc (.cells #[.int .i64 0, .int .i64 1, .int .u64 0, .int .i64 n, .int .u64 0] 29) = X1 at V HR B P0 P1 ⊢
    generalize w3.heap.size = q1 at P1 ⊢
    refine (tail_ok n h0 h1 _).mono ?_; rintro e w4 ⟨rfl, b2⟩
    replace V := hide (V.out.below b2)
    replace HR := hide (HR.out.below b2)
    replace P0 := hide (P0.out.below b2)
    replace P1 := hide (P1.out.below b2)
    replace B := hide (B.out.trans (b2.mono B.out.size))
    clear b2
    have ba2 := (Below.refl w4.heap.size w4).alloc (Nat.le_refl _) (.cells #[.int .i64 1, .int .i64 3, .int .u64 0, .int .i64 n, .int .u64 0] 29)
    have P2 := hide (IsB.new w4 #[.int .i64 1, .int .i64 3, .int .u64 0, .int .i64 n, .int .u64 0] 29)
    replace V := hide (V.out.below ba2)
    replace HR := hide (HR.out.below ba2)
    replace P0 := hide (P0.out.below ba2)
    replace P1 := hide (P1.out.below ba2)
    replace B := hide (B.out.trans (ba2.mono B.out.size))
    clear ba2
    go_wp2_with fail
    generalize w4.alloc (.cells #[.int .i64 1, .int .i64 3, .int .u64 0, .int .i64 n, .int .u64 0] 29) = X2 at V HR B P0 P1 P2 ⊢
    generalize w4.heap.size = q2 at P2 ⊢
    refine (rtail_ok n h0 h1 _).mono ?_; rintro e w5 ⟨rfl, b2⟩
    replace V := hide (V.out.below b2)
    replace HR := hide (HR.out.below b2)
    replace P0 := hide (P0.out.below b2)
    replace P1 := hide (P1.out.below b2)
    replace P2 := hide (P2.out.below b2)
    replace B := hide (B.out.trans (b2.mono B.out.size))
    clear b2
    have ba2 := (Below.refl w5.heap.size w5).alloc (Nat.le_refl _) (.cells #[.int .i64 1, .int .i64 3, .int .u64 0, .int .i64 n, .int .u64 0] 29)
    have P3 := hide (IsB.new w5 #[.int .i64 1, .int .i64 3, .int .u64 0, .int .i64 n, .int .u64 0] 29)
    replace V := hide (V.out.below ba2)
    replace HR := hide (HR.out.below ba2)
    replace P0 := hide (P0.out.below ba2)
    replace P1 := hide (P1.out.below ba2)
    replace P2 := hide (P2.out.below ba2)
    replace B := hide (B.out.trans (ba2.mono B.out.size))
    clear ba2
    have ld := hide (load_su V.out rfl)
    go_wp2_with (first | ((with_reducible refine wpList_load_w ?hw 32 (.tmp 3) ?ho ?hx ld.out ?h); (case ho => rfl); (case hw => rfl); (case hx => rfl)))
    clear ld
    generalize w5.alloc (.cells #[.int .i64 1, .int .i64 3, .int .u64 0, .int .i64 n, .int .u64 0] 29) = X3 at V HR B P0 P1 P2 P3 ⊢
    generalize w5.heap.size = q3 at P3 ⊢
    refine (made_any en ht i0 i1 i2 i3 i4 ba bc bl hn0 hcap hb _ (hr.below B.out) HR.out).mono ?_; rintro e w7 ⟨pv, rv, rfl, b2⟩
    replace HR := hide (HR.out.below b2)
    replace P0 := hide (P0.out.below b2)
    replace P1 := hide (P1.out.below b2)
    replace P2 := hide (P2.out.below b2)
    replace P3 := hide (P3.out.below b2)
    replace B := hide (B.out.trans (b2.mono B.out.size))
    clear b2
    have c00 : w7.cell? ⟨q0, 0, none⟩ = some (.int .i64 0) := P0.out.cell 0
    have c01 : w7.cell? ⟨q0, 1, none⟩ = some (.int .i64 1) := P0.out.cell 1
    have c02 : w7.cell? ⟨q0, 2, none⟩ = some (.int .u64 0) := P0.out.cell 2
    have c03 : w7.cell? ⟨q0, 3, none⟩ = some (.int .i64 n) := P0.out.cell 3
    have c04 : w7.cell? ⟨q0, 4, none⟩ = some (.int .u64 0) := P0.out.cell 4
    have c10 : w7.cell? ⟨q1, 0, none⟩ = some (.int .i64 0) := P1.out.cell 0
    have c11 : w7.cell? ⟨q1, 1, none⟩ = some (.int .i64 1) := P1.out.cell 1
    have c12 : w7.cell? ⟨q1, 2, none⟩ = some (.int .u64 0) := P1.out.cell 2
    have c13 : w7.cell? ⟨q1, 3, none⟩ = some (.int .i64 n) := P1.out.cell 3
    have c14 : w7.cell? ⟨q1, 4, none⟩ = some (.int .u64 0) := P1.out.cell 4
    have c20 : w7.cell? ⟨q2, 0, none⟩ = some (.int .i64 1) := P2.out.cell 0
    have c21 : w7.cell? ⟨q2, 1, none⟩ = some (.int .i64 3) := P2.out.cell 1
    have c22 : w7.cell? ⟨q2, 2, none⟩ = some (.int .u64 0) := P2.out.cell 2
    have c23 : w7.cell? ⟨q2, 3, none⟩ = some (.int .i64 n) := P2.out.cell 3
    have c24 : w7.cell? ⟨q2, 4, none⟩ = some (.int .u64 0) := P2.out.cell 4
    have c30 : w7.cell? ⟨q3, 0, none⟩ = some (.int .i64 1) := P3.out.cell 0
    have c31 : w7.cell? ⟨q3, 1, none⟩ = some (.int .i64 3) := P3.out.cell 1
    have c32 : w7.cell? ⟨q3, 2, none⟩ = some (.int .u64 0) := P3.out.cell 2
    have c33 : w7.cell? ⟨q3, 3, none⟩ = some (.int .i64 n) := P3.out.cell 3
    have c34 : w7.cell? ⟨q3, 4, none⟩ = some (.int .u64 0) := P3.out.cell 4
    have hgd : Hid (Tryd.prog.eqGuardType Tryd.prog.depth 29 = false) := by show Tryd.prog.eqGuardType Tryd.prog.depth 29 = false; kernel_rfl
    have heq1 : ∀ w, (binOp .eql 29 (.agg #[.int .i64 0, .int .i64 1, .int .u64 0, .int .i64 n, .int .u64 0]) (.agg #[.int .i64 0, .int .i64 1, .int .u64 0, .int .i64 n, .int .u64 0])).run Tryd.prog w = .ok (.bool true) w := fun w => by have := eqr 0 1 0 n 0 0 1 0 n 0 w; simpa using this
    have heq2 : ∀ w, (binOp .eql 29 (.agg #[.int .i64 1, .int .i64 3, .int .u64 0, .int .i64 n, .int .u64 0]) (.agg #[.int .i64 1, .int .i64 3, .int .u64 0, .int .i64 n, .int .u64 0])).run Tryd.prog w = .ok (.bool true) w := fun w => by have := eqr 1 3 0 n 0 1 3 0 n 0 w; simpa using this
    go_wp2_with (first | ((with_reducible refine wpList_bin_w .eql 29 (.tmp 42) (.tmp 43) 29 ?ho ?hw hgd.out ?hx ?hy (heq1 _) ?h); (case ho => rfl); (case hw => rfl); (case hx => rfl); (case hy => rfl)) | ((with_reducible refine wpList_bin_w .eql 29 (.tmp 51) (.tmp 52) 29 ?ho ?hw hgd.out ?hx ?hy (heq2 _) ?h); (case ho => rfl); (case hw => rfl); (case hx => rfl); (case hy => rfl)))
    refine (alive_any _ HR.out).mono ?_; rintro e w8 ⟨rfl, b2⟩
    replace B := hide (B.out.trans (b2.mono B.out.size))
    clear b2
    go_wp2
    go_ret
    exact ⟨rfl, B.out⟩

end Go.Proofs.YtdogdinkopocaaaDoor
