/- Package peer: Ask and answer. -/
import Derived.Test.YtdogdinkopocaaaDoorPI
import Derived.Test.YtdogdinkopocaaaDoorPJ
import Derived.Test.YtdogdinkopocaaaDoorPN
namespace Go.Proofs.YtdogdinkopocaaaDoor
open Go.RowKit Go.Maps

set_option maxHeartbeats 4000000 in
set_option maxRecDepth 100000 in
theorem pask_ok (base p lp lm km : Nat) (va : Option Addr) (vc : Nat) (ma : Option Addr) (mc : Nat) (s : PS) (w : World) (h : PAt w base p lp lm km va vc ma mc s) (t : Int) (k x y r0 r1 r2 r3 r4 s0 s1 s2 s3 s4 a o : Int) (hck : ∀ W : World, Below w.heap.size w W → Calls Tryd.prog 19 #[.agg #[.int .i64 k, .int .i64 x, .int .u64 y, .int .i64 r0, .int .i64 r1, .int .u64 r2, .int .i64 r3, .int .u64 r4, .int .i64 s0, .int .i64 s1, .int .u64 s2, .int .i64 s3, .int .u64 s4, .int .i64 a, .int .i64 o]] W fun e w' => e = .returned (.int .i64 0) ∧ Below W.heap.size W w') (R : Value → World → Prop) (han : ∀ W : World, Below w.heap.size w W → Calls Tryd.prog 20 #[.pointer (some ⟨p, 0, none⟩), .int .i64 t, .agg #[.int .i64 k, .int .i64 x, .int .u64 y, .int .i64 r0, .int .i64 r1, .int .u64 r2, .int .i64 r3, .int .u64 r4, .int .i64 s0, .int .i64 s1, .int .u64 s2, .int .i64 s3, .int .u64 s4, .int .i64 a, .int .i64 o]] W fun e w' => ∃ v, e = .returned v ∧ R v w') : Calls Tryd.prog 15 #[.pointer (some ⟨p, 0, none⟩), .int .i64 t, .agg #[.int .i64 k, .int .i64 x, .int .u64 y, .int .i64 r0, .int .i64 r1, .int .u64 r2, .int .i64 r3, .int .u64 r4, .int .i64 s0, .int .i64 s1, .int .u64 s2, .int .i64 s3, .int .u64 s4, .int .i64 a, .int .i64 o]] w fun e w' => ∃ v, e = .returned (.tuple #[v, .int .i64 0]) ∧ R v w' := by
  have hck := hide hck
  have han := hide han
  have b1 : Below w.heap.size w (w.alloc (.cells #[.int .i64 k, .int .i64 x, .int .u64 y, .int .i64 r0, .int .i64 r1, .int .u64 r2, .int .i64 r3, .int .u64 r4, .int .i64 s0, .int .i64 s1, .int .u64 s2, .int .i64 s3, .int .u64 s4, .int .i64 a, .int .i64 o] 58)) := (Below.refl _ w).alloc (Nat.le_refl _) _
  have X := hide (h.below b1)
  have A := hide (IsB.new w #[.int .i64 k, .int .i64 x, .int .u64 y, .int .i64 r0, .int .i64 r1, .int .u64 r2, .int .i64 r3, .int .u64 r4, .int .i64 s0, .int .i64 s1, .int .u64 s2, .int .i64 s3, .int .u64 s4, .int .i64 a, .int .i64 o] 58)
  have B := hide b1
  clear h b1
  go_enter Tryd.func15, Tryd.ntmps15
  go_wp2_with fail
  generalize w.alloc (.cells #[.int .i64 k, .int .i64 x, .int .u64 y, .int .i64 r0, .int .i64 r1, .int .u64 r2, .int .i64 r3, .int .u64 r4, .int .i64 s0, .int .i64 s1, .int .u64 s2, .int .i64 s3, .int .u64 s4, .int .i64 a, .int .i64 o] 58) = W1 at X A B ⊢
  generalize hH : w.heap.size = H at A ⊢
  replace hH := hide hH
  refine (pmade_yes base p lp lm km va vc ma mc s _ X.out).mono ?_; intro e w2 hE; obtain ⟨rfl, hw2⟩ := hE
  rw [hw2]
  clear hw2 w2
  have ld := hide (load_ask A.out rfl)
  go_wp2_with (first | ((with_reducible refine wpList_load_w ?hw 58 (.tmp 5) ?ho ?hx ld.out ?h); (case ho => rfl); (case hw => rfl); (case hx => rfl)))
  clear ld
  refine (hck.out _ B.out).mono ?_; rintro e w3 ⟨rfl, b3⟩
  replace A := hide (A.out.below b3)
  replace B := hide (B.out.trans (b3.mono B.out.size))
  clear b3 X
  have ld := hide (load_ask A.out rfl)
  go_wp2_with (first | ((with_reducible refine wpList_load_w ?hw 58 (.tmp 5) ?ho ?hx ld.out ?h); (case ho => rfl); (case hw => rfl); (case hx => rfl)))
  clear ld
  refine (han.out _ B.out).mono ?_; rintro e w4 ⟨v, rfl, hR4⟩
  have HR4 := hide hR4
  clear hR4
  go_wp2
  go_ret2
  exact ⟨v, rfl, HR4.out⟩

set_option maxHeartbeats 4000000 in
set_option maxRecDepth 100000 in
theorem answer_lock (pv : Value) (t : Int) (x y r0 r1 r2 r3 r4 s0 s1 s2 s3 s4 a o : Int) (w : World) (R : Value → World → Prop) (hc : ∀ W : World, Below w.heap.size w W → Calls Tryd.prog 32 #[pv, .int .i64 t, .agg #[.int .i64 3, .int .i64 x, .int .u64 y, .int .i64 r0, .int .i64 r1, .int .u64 r2, .int .i64 r3, .int .u64 r4, .int .i64 s0, .int .i64 s1, .int .u64 s2, .int .i64 s3, .int .u64 s4, .int .i64 a, .int .i64 o]] W fun e w' => ∃ v, e = .returned v ∧ R v w') : Calls Tryd.prog 20 #[pv, .int .i64 t, .agg #[.int .i64 3, .int .i64 x, .int .u64 y, .int .i64 r0, .int .i64 r1, .int .u64 r2, .int .i64 r3, .int .u64 r4, .int .i64 s0, .int .i64 s1, .int .u64 s2, .int .i64 s3, .int .u64 s4, .int .i64 a, .int .i64 o]] w fun e w' => ∃ v, e = .returned v ∧ R v w' := by
  have hc := hide hc
  have b1 : Below w.heap.size w (w.alloc (.cells #[.int .i64 3, .int .i64 x, .int .u64 y, .int .i64 r0, .int .i64 r1, .int .u64 r2, .int .i64 r3, .int .u64 r4, .int .i64 s0, .int .i64 s1, .int .u64 s2, .int .i64 s3, .int .u64 s4, .int .i64 a, .int .i64 o] 58)) := (Below.refl _ w).alloc (Nat.le_refl _) _
  have A := hide (IsB.new w #[.int .i64 3, .int .i64 x, .int .u64 y, .int .i64 r0, .int .i64 r1, .int .u64 r2, .int .i64 r3, .int .u64 r4, .int .i64 s0, .int .i64 s1, .int .u64 s2, .int .i64 s3, .int .u64 s4, .int .i64 a, .int .i64 o] 58)
  have B := hide b1
  clear b1
  have c0 := A.out.cell 0
  simp at c0
  have ld := hide (load_ask A.out rfl)
  go_enter Tryd.func20, Tryd.ntmps20
  skip
  go_wp2_with (first | ((with_reducible refine wpList_load_w ?hw 58 (.tmp 5) ?ho ?hx ld.out ?h); (case ho => rfl); (case hw => rfl); (case hx => rfl)))
  clear ld c0
  refine (hc.out _ B.out).mono ?_; rintro e w4 ⟨v, rfl, hR4⟩
  have HR4 := hide hR4
  clear hR4
  go_wp2
  go_ret
  exact ⟨v, rfl, HR4.out⟩

set_option maxHeartbeats 4000000 in
set_option maxRecDepth 100000 in
theorem answer_free (pv : Value) (t : Int) (x y r0 r1 r2 r3 r4 s0 s1 s2 s3 s4 a o : Int) (w : World) (R : Value → World → Prop) (hc : ∀ W : World, Below w.heap.size w W → Calls Tryd.prog 33 #[pv, .int .i64 t, .agg #[.int .i64 4, .int .i64 x, .int .u64 y, .int .i64 r0, .int .i64 r1, .int .u64 r2, .int .i64 r3, .int .u64 r4, .int .i64 s0, .int .i64 s1, .int .u64 s2, .int .i64 s3, .int .u64 s4, .int .i64 a, .int .i64 o]] W fun e w' => ∃ v, e = .returned v ∧ R v w') : Calls Tryd.prog 20 #[pv, .int .i64 t, .agg #[.int .i64 4, .int .i64 x, .int .u64 y, .int .i64 r0, .int .i64 r1, .int .u64 r2, .int .i64 r3, .int .u64 r4, .int .i64 s0, .int .i64 s1, .int .u64 s2, .int .i64 s3, .int .u64 s4, .int .i64 a, .int .i64 o]] w fun e w' => ∃ v, e = .returned v ∧ R v w' := by
  have hc := hide hc
  have b1 : Below w.heap.size w (w.alloc (.cells #[.int .i64 4, .int .i64 x, .int .u64 y, .int .i64 r0, .int .i64 r1, .int .u64 r2, .int .i64 r3, .int .u64 r4, .int .i64 s0, .int .i64 s1, .int .u64 s2, .int .i64 s3, .int .u64 s4, .int .i64 a, .int .i64 o] 58)) := (Below.refl _ w).alloc (Nat.le_refl _) _
  have A := hide (IsB.new w #[.int .i64 4, .int .i64 x, .int .u64 y, .int .i64 r0, .int .i64 r1, .int .u64 r2, .int .i64 r3, .int .u64 r4, .int .i64 s0, .int .i64 s1, .int .u64 s2, .int .i64 s3, .int .u64 s4, .int .i64 a, .int .i64 o] 58)
  have B := hide b1
  clear b1
  have c0 := A.out.cell 0
  simp at c0
  have ld := hide (load_ask A.out rfl)
  go_enter Tryd.func20, Tryd.ntmps20
  skip
  go_wp2_with (first | ((with_reducible refine wpList_load_w ?hw 58 (.tmp 5) ?ho ?hx ld.out ?h); (case ho => rfl); (case hw => rfl); (case hx => rfl)))
  clear ld c0
  refine (hc.out _ B.out).mono ?_; rintro e w4 ⟨v, rfl, hR4⟩
  have HR4 := hide hR4
  clear hR4
  go_wp2
  go_ret
  exact ⟨v, rfl, HR4.out⟩

set_option maxHeartbeats 8000000 in
set_option maxRecDepth 100000 in
theorem answer_rec (base p lp lm km : Nat) (va : Option Addr) (vc : Nat) (ma : Option Addr) (mc : Nat) (s : PS) (w : World) (h : PAt w base p lp lm km va vc ma mc s) (hB : base ≤ w.heap.size) (t : Int) (x y r0 r1 r2 r3 r4 s0 s1 s2 s3 s4 a o : Int) (hR : Ranks w) (Lok : Tb → Prop) (hPut : ∀ W : World, LK W base lp lm s.me s.L → base ≤ W.heap.size → Ranks W → Calls Tryd.prog 37 #[.pointer (some ⟨lp, 0, none⟩), .agg #[.int .i64 x, .int .u64 y], .agg #[.int .i64 r0, .int .i64 r1, .int .u64 r2, .int .i64 r3, .int .u64 r4], .agg #[.int .i64 s0, .int .i64 s1, .int .u64 s2, .int .i64 s3, .int .u64 s4], .agg #[.int .i64 a, .int .i64 o]] W fun e w' => e = .returned (.int .i64 0) ∧ ∃ L', Lok L' ∧ KX W w' base lp lm s.me s.L L') : Calls Tryd.prog 20 #[.pointer (some ⟨p, 0, none⟩), .int .i64 t, .agg #[.int .i64 7, .int .i64 x, .int .u64 y, .int .i64 r0, .int .i64 r1, .int .u64 r2, .int .i64 r3, .int .u64 r4, .int .i64 s0, .int .i64 s1, .int .u64 s2, .int .i64 s3, .int .u64 s4, .int .i64 a, .int .i64 o]] w fun e w' => ∃ v, e = .returned v ∧ ∃ b, v = .slice (some ⟨b, 0, none⟩) 1 1 ∧ IsB w' b #[.int .i64 t, .int .i64 1, .bool false, .int .i64 0, .int .i64 0, .int .u64 0, .int .i64 0, .int .u64 0, .int .i64 0, .int .i64 0, .int .u64 0, .int .i64 0, .int .u64 0, .slice none 0 0] 63 ∧ ∃ L', Lok L' ∧ PAt w' base p lp lm km va vc ma mc { s with L := L' } ∧ Kpt km lm w w' ∧ Below base w w' := by
  have mixed : Tryd.prog.follows .mixedOrders = true := by kernel_rfl
  have hPut := hide hPut
  have b1 : Below w.heap.size w (w.alloc (.cells #[.int .i64 7, .int .i64 x, .int .u64 y, .int .i64 r0, .int .i64 r1, .int .u64 r2, .int .i64 r3, .int .u64 r4, .int .i64 s0, .int .i64 s1, .int .u64 s2, .int .i64 s3, .int .u64 s4, .int .i64 a, .int .i64 o] 58)) := (Below.refl _ w).alloc (Nat.le_refl _) _
  have X := hide (h.below b1)
  have A := hide (IsB.new w #[.int .i64 7, .int .i64 x, .int .u64 y, .int .i64 r0, .int .i64 r1, .int .u64 r2, .int .i64 r3, .int .u64 r4, .int .i64 s0, .int .i64 s1, .int .u64 s2, .int .i64 s3, .int .u64 s4, .int .i64 a, .int .i64 o] 58)
  have B := hide (b1.mono hB)
  have Kt : Hid (Kpt km lm w (w.alloc (.cells #[.int .i64 7, .int .i64 x, .int .u64 y, .int .i64 r0, .int .i64 r1, .int .u64 r2, .int .i64 r3, .int .u64 r4, .int .i64 s0, .int .i64 s1, .int .u64 s2, .int .i64 s3, .int .u64 s4, .int .i64 a, .int .i64 o] 58))) := Kpt.of_below b1
  have HR := hide (hR.below b1)
  have hBs : base ≤ (w.alloc (.cells #[.int .i64 7, .int .i64 x, .int .u64 y, .int .i64 r0, .int .i64 r1, .int .u64 r2, .int .i64 r3, .int .u64 r4, .int .i64 s0, .int .i64 s1, .int .u64 s2, .int .i64 s3, .int .u64 s4, .int .i64 a, .int .i64 o] 58)).heap.size := by simp; omega
  clear h b1 hR
  have c0 := A.out.cell 0
  simp at c0
  go_enter Tryd.func20, Tryd.ntmps20
  go_wp2_with fail
  clear c0
  generalize w.alloc (.cells #[.int .i64 7, .int .i64 x, .int .u64 y, .int .i64 r0, .int .i64 r1, .int .u64 r2, .int .i64 r3, .int .u64 r4, .int .i64 s0, .int .i64 s1, .int .u64 s2, .int .i64 s3, .int .u64 s4, .int .i64 a, .int .i64 o] 58) = W1 at X A B Kt HR hBs ⊢
  generalize hA0 : Value.agg #[.int .i64 7, .int .i64 x, .int .u64 y, .int .i64 r0, .int .i64 r1, .int .u64 r2, .int .i64 r3, .int .u64 r4, .int .i64 s0, .int .i64 s1, .int .u64 s2, .int .i64 s3, .int .u64 s4, .int .i64 a, .int .i64 o] = A0
  clear hA0
  generalize hH : w.heap.size = H at A ⊢
  replace hH := hide hH
  replace HR := hide (HR.out.below (Below.refl W1.heap.size W1).drew)
  replace X := hide (X.out.below (Below.refl W1.heap.size W1).drew)
  replace A := hide (A.out.below (Below.refl W1.heap.size W1).drew)
  replace Kt := hide (Kt.out.trans (Kpt.of_below (Below.refl W1.heap.size W1).drew))
  replace B := hide (B.out.trans ((Below.refl W1.heap.size W1).drew.mono hBs))
  replace hBs : base ≤ _ := Nat.le_trans hBs (Below.refl W1.heap.size W1).drew.size
  refine regionL 17 (fun w' => w'.cell? ⟨p, 8, none⟩ = some (.pointer (some ⟨lp, 0, none⟩)) ∧ w'.cell? ⟨H, 1, none⟩ = some (.int .i64 x) ∧ w'.cell? ⟨H, 2, none⟩ = some (.int .u64 y) ∧ w'.cell? ⟨H, 3, none⟩ = some (.int .i64 r0) ∧ w'.cell? ⟨H, 4, none⟩ = some (.int .i64 r1) ∧ w'.cell? ⟨H, 5, none⟩ = some (.int .u64 r2) ∧ w'.cell? ⟨H, 6, none⟩ = some (.int .i64 r3) ∧ w'.cell? ⟨H, 7, none⟩ = some (.int .u64 r4) ∧ w'.cell? ⟨H, 8, none⟩ = some (.int .i64 s0) ∧ w'.cell? ⟨H, 9, none⟩ = some (.int .i64 s1) ∧ w'.cell? ⟨H, 10, none⟩ = some (.int .u64 s2) ∧ w'.cell? ⟨H, 11, none⟩ = some (.int .i64 s3) ∧ w'.cell? ⟨H, 12, none⟩ = some (.int .u64 s4) ∧ w'.cell? ⟨H, 13, none⟩ = some (.int .i64 a) ∧ w'.cell? ⟨H, 14, none⟩ = some (.int .i64 o)) mixed ⟨X.out.blk.cell 8, A.out.cell 1, A.out.cell 2, A.out.cell 3, A.out.cell 4, A.out.cell 5, A.out.cell 6, A.out.cell 7, A.out.cell 8, A.out.cell 9, A.out.cell 10, A.out.cell 11, A.out.cell 12, A.out.cell 13, A.out.cell 14⟩ (fun hHeld => ?_)
  refine pickA (v := ?_) 0 (some 66) rfl rfl (by kernel_rfl) (by kernel_rfl) (by kernel_rfl) (by decide) (fun _ _ _ h => h) (by rfl) ?_ (by assumption) ?_
  rotate_left
  · intro w'
    go_simp
    try with_reducible rfl
  try simp only [Act.put, List.setIfInBounds_toArray, List.set_cons_zero, List.set_cons_succ]
  refine pickA (v := ?_) 1 (some 67) rfl rfl (by kernel_rfl) (by kernel_rfl) (by kernel_rfl) (by decide) (fun _ _ _ h => h) (by rfl) ?_ (by assumption) ?_
  rotate_left
  · intro w'
    go_simp
    try with_reducible rfl
  try simp only [Act.put, List.setIfInBounds_toArray, List.set_cons_zero, List.set_cons_succ]
  refine pickA (v := ?_) 2 (some 68) rfl rfl (by kernel_rfl) (by kernel_rfl) (by kernel_rfl) (by decide) (fun _ _ _ h => h) (by rfl) ?_ (by assumption) ?_
  rotate_left
  · intro w'
    go_simp
    try with_reducible rfl
  try simp only [Act.put, List.setIfInBounds_toArray, List.set_cons_zero, List.set_cons_succ]
  refine pickA (v := ?_) 3 (some 69) rfl rfl (by kernel_rfl) (by kernel_rfl) (by kernel_rfl) (by decide) (fun _ _ _ h => h) (by rfl) ?_ (by assumption) ?_
  rotate_left
  · intro w'
    go_simp
    try with_reducible rfl
  try simp only [Act.put, List.setIfInBounds_toArray, List.set_cons_zero, List.set_cons_succ]
  refine pickL (v := ?_) 4 (some 70) rfl rfl (by kernel_rfl) (by kernel_rfl) (by kernel_rfl) (by decide) (by kernel_rfl) (by kernel_rfl) (fun _ _ _ h => h) (by rfl) ?_ (by assumption) ?_
  rotate_left
  · intro w' hSw
    obtain ⟨q0, q1, q2, q3, q4, q5, q6, q7, q8, q9, q10, q11, q12, q13, q14⟩ := hSw
    go_simp
    try with_reducible rfl
  try simp only [Act.put, List.setIfInBounds_toArray, List.set_cons_zero, List.set_cons_succ]
  refine pickA (v := ?_) 5 (some 71) rfl rfl (by kernel_rfl) (by kernel_rfl) (by kernel_rfl) (by decide) (fun _ _ _ h => h) (by rfl) ?_ (by assumption) ?_
  rotate_left
  · intro w'
    go_simp
    try with_reducible rfl
  try simp only [Act.put, List.setIfInBounds_toArray, List.set_cons_zero, List.set_cons_succ]
  refine pickL (v := ?_) 6 (some 72) rfl rfl (by kernel_rfl) (by kernel_rfl) (by kernel_rfl) (by decide) (by kernel_rfl) (by kernel_rfl) (fun _ _ _ h => h) (by rfl) ?_ (by assumption) ?_
  rotate_left
  · intro w' hSw
    obtain ⟨q0, q1, q2, q3, q4, q5, q6, q7, q8, q9, q10, q11, q12, q13, q14⟩ := hSw
    go_simp
    try with_reducible rfl
  try simp only [Act.put, List.setIfInBounds_toArray, List.set_cons_zero, List.set_cons_succ]
  refine pickA (v := ?_) 7 (some 73) rfl rfl (by kernel_rfl) (by kernel_rfl) (by kernel_rfl) (by decide) (fun _ _ _ h => h) (by rfl) ?_ (by assumption) ?_
  rotate_left
  · intro w'
    go_simp
    try with_reducible rfl
  try simp only [Act.put, List.setIfInBounds_toArray, List.set_cons_zero, List.set_cons_succ]
  refine pickL (v := ?_) 8 (some 74) rfl rfl (by kernel_rfl) (by kernel_rfl) (by kernel_rfl) (by decide) (by kernel_rfl) (by kernel_rfl) (fun _ _ _ h => h) (by rfl) ?_ (by assumption) ?_
  rotate_left
  · intro w' hSw
    obtain ⟨q0, q1, q2, q3, q4, q5, q6, q7, q8, q9, q10, q11, q12, q13, q14⟩ := hSw
    go_simp
    try with_reducible rfl
  try simp only [Act.put, List.setIfInBounds_toArray, List.set_cons_zero, List.set_cons_succ]
  refine pickA (v := ?_) 9 (some 75) rfl rfl (by kernel_rfl) (by kernel_rfl) (by kernel_rfl) (by decide) (fun _ _ _ h => h) (by rfl) ?_ (by assumption) ?_
  rotate_left
  · intro w'
    go_simp
    try with_reducible rfl
  try simp only [Act.put, List.setIfInBounds_toArray, List.set_cons_zero, List.set_cons_succ]
  refine pickL (v := ?_) 10 (some 76) rfl rfl (by kernel_rfl) (by kernel_rfl) (by kernel_rfl) (by decide) (by kernel_rfl) (by kernel_rfl) (fun _ _ _ h => h) (by rfl) ?_ (by assumption) ?_
  rotate_left
  · intro w' hSw
    obtain ⟨q0, q1, q2, q3, q4, q5, q6, q7, q8, q9, q10, q11, q12, q13, q14⟩ := hSw
    go_simp
    try with_reducible rfl
  try simp only [Act.put, List.setIfInBounds_toArray, List.set_cons_zero, List.set_cons_succ]
  refine pickA (v := ?_) 11 (some 77) rfl rfl (by kernel_rfl) (by kernel_rfl) (by kernel_rfl) (by decide) (fun _ _ _ h => h) (by rfl) ?_ (by assumption) ?_
  rotate_left
  · intro w'
    go_simp
    try with_reducible rfl
  try simp only [Act.put, List.setIfInBounds_toArray, List.set_cons_zero, List.set_cons_succ]
  refine pickL (v := ?_) 12 (some 78) rfl rfl (by kernel_rfl) (by kernel_rfl) (by kernel_rfl) (by decide) (by kernel_rfl) (by kernel_rfl) (fun _ _ _ h => h) (by rfl) ?_ (by assumption) ?_
  rotate_left
  · intro w' hSw
    obtain ⟨q0, q1, q2, q3, q4, q5, q6, q7, q8, q9, q10, q11, q12, q13, q14⟩ := hSw
    go_simp
    try with_reducible rfl
  try simp only [Act.put, List.setIfInBounds_toArray, List.set_cons_zero, List.set_cons_succ]
  refine oneL (i := 13) (by kernel_rfl) rfl (fun K hK => ?_)
  go_simp
  refine (hPut.out _ X.out.lk hBs HR.out).mono ?_; rintro e w2 ⟨rfl, L', hLok, hx⟩
  have kx := hx.kpt (km := km) X.out.lk
  have lx := hx.low X.out.lk hBs
  replace X := hide (X.out.kx hx)
  replace A := hide (kx.isB A.out (by decide) (by decide) (by decide) (by decide))
  replace Kt := hide (Kt.out.trans kx)
  replace B := hide (B.out.trans lx)
  replace hBs : base ≤ w2.heap.size := Nat.le_trans hBs lx.size
  clear hx kx lx HR
  refine hK.out _ _ ?_ ?_
  · exact ⟨X.out.blk.cell 8, A.out.cell 1, A.out.cell 2, A.out.cell 3, A.out.cell 4, A.out.cell 5, A.out.cell 6, A.out.cell 7, A.out.cell 8, A.out.cell 9, A.out.cell 10, A.out.cell 11, A.out.cell 12, A.out.cell 13, A.out.cell 14⟩
  clear hK K
  try simp only [Act.put, List.setIfInBounds_toArray, List.set_cons_zero, List.set_cons_succ]
  clear hHeld
  have hHeld : (fun w' => w'.cell? ⟨p, 8, none⟩ = some (.pointer (some ⟨lp, 0, none⟩)) ∧ w'.cell? ⟨H, 1, none⟩ = some (.int .i64 x) ∧ w'.cell? ⟨H, 2, none⟩ = some (.int .u64 y) ∧ w'.cell? ⟨H, 3, none⟩ = some (.int .i64 r0) ∧ w'.cell? ⟨H, 4, none⟩ = some (.int .i64 r1) ∧ w'.cell? ⟨H, 5, none⟩ = some (.int .u64 r2) ∧ w'.cell? ⟨H, 6, none⟩ = some (.int .i64 r3) ∧ w'.cell? ⟨H, 7, none⟩ = some (.int .u64 r4) ∧ w'.cell? ⟨H, 8, none⟩ = some (.int .i64 s0) ∧ w'.cell? ⟨H, 9, none⟩ = some (.int .i64 s1) ∧ w'.cell? ⟨H, 10, none⟩ = some (.int .u64 s2) ∧ w'.cell? ⟨H, 11, none⟩ = some (.int .i64 s3) ∧ w'.cell? ⟨H, 12, none⟩ = some (.int .u64 s4) ∧ w'.cell? ⟨H, 13, none⟩ = some (.int .i64 a) ∧ w'.cell? ⟨H, 14, none⟩ = some (.int .i64 o)) w2 := ⟨X.out.blk.cell 8, A.out.cell 1, A.out.cell 2, A.out.cell 3, A.out.cell 4, A.out.cell 5, A.out.cell 6, A.out.cell 7, A.out.cell 8, A.out.cell 9, A.out.cell 10, A.out.cell 11, A.out.cell 12, A.out.cell 13, A.out.cell 14⟩
  refine oneL (i := 14) (by kernel_rfl) rfl (fun K hK => ?_)
  go_simp
  refine (done_ok 0 rfl _).mono ?_; rintro e w3 ⟨rfl, b3⟩
  replace X := hide (X.out.below b3)
  replace A := hide (A.out.below b3)
  replace Kt := hide (Kt.out.trans (Kpt.of_below b3))
  replace B := hide (B.out.trans (b3.mono hBs))
  replace hBs : base ≤ _ := Nat.le_trans hBs b3.size
  refine hK.out _ _ ?_ ?_
  · exact ⟨X.out.blk.cell 8, A.out.cell 1, A.out.cell 2, A.out.cell 3, A.out.cell 4, A.out.cell 5, A.out.cell 6, A.out.cell 7, A.out.cell 8, A.out.cell 9, A.out.cell 10, A.out.cell 11, A.out.cell 12, A.out.cell 13, A.out.cell 14⟩
  clear hK K
  try simp only [Act.put, List.setIfInBounds_toArray, List.set_cons_zero, List.set_cons_succ]
  clear hHeld
  have hHeld : (fun w' => w'.cell? ⟨p, 8, none⟩ = some (.pointer (some ⟨lp, 0, none⟩)) ∧ w'.cell? ⟨H, 1, none⟩ = some (.int .i64 x) ∧ w'.cell? ⟨H, 2, none⟩ = some (.int .u64 y) ∧ w'.cell? ⟨H, 3, none⟩ = some (.int .i64 r0) ∧ w'.cell? ⟨H, 4, none⟩ = some (.int .i64 r1) ∧ w'.cell? ⟨H, 5, none⟩ = some (.int .u64 r2) ∧ w'.cell? ⟨H, 6, none⟩ = some (.int .i64 r3) ∧ w'.cell? ⟨H, 7, none⟩ = some (.int .u64 r4) ∧ w'.cell? ⟨H, 8, none⟩ = some (.int .i64 s0) ∧ w'.cell? ⟨H, 9, none⟩ = some (.int .i64 s1) ∧ w'.cell? ⟨H, 10, none⟩ = some (.int .u64 s2) ∧ w'.cell? ⟨H, 11, none⟩ = some (.int .i64 s3) ∧ w'.cell? ⟨H, 12, none⟩ = some (.int .u64 s4) ∧ w'.cell? ⟨H, 13, none⟩ = some (.int .i64 a) ∧ w'.cell? ⟨H, 14, none⟩ = some (.int .i64 o)) w3 := ⟨X.out.blk.cell 8, A.out.cell 1, A.out.cell 2, A.out.cell 3, A.out.cell 4, A.out.cell 5, A.out.cell 6, A.out.cell 7, A.out.cell 8, A.out.cell 9, A.out.cell 10, A.out.cell 11, A.out.cell 12, A.out.cell 13, A.out.cell 14⟩
  refine oneL (i := 15) (by kernel_rfl) rfl (fun K hK => ?_)
  go_simp
  refine (only_any t 1 false 0 0 0 0 0 0 0 0 0 0 none 0 0 _).mono ?_; rintro e w4 ⟨rb, rfl, -, hI, b4⟩
  have Y := hide hI
  replace X := hide (X.out.below b4)
  replace A := hide (A.out.below b4)
  replace Kt := hide (Kt.out.trans (Kpt.of_below b4))
  replace B := hide (B.out.trans (b4.mono hBs))
  replace hBs : base ≤ _ := Nat.le_trans hBs b4.size
  clear hI
  refine hK.out _ _ ?_ ?_
  · exact ⟨X.out.blk.cell 8, A.out.cell 1, A.out.cell 2, A.out.cell 3, A.out.cell 4, A.out.cell 5, A.out.cell 6, A.out.cell 7, A.out.cell 8, A.out.cell 9, A.out.cell 10, A.out.cell 11, A.out.cell 12, A.out.cell 13, A.out.cell 14⟩
  clear hK K
  try simp only [Act.put, List.setIfInBounds_toArray, List.set_cons_zero, List.set_cons_succ]
  clear hHeld
  have hHeld : (fun w' => w'.cell? ⟨p, 8, none⟩ = some (.pointer (some ⟨lp, 0, none⟩)) ∧ w'.cell? ⟨H, 1, none⟩ = some (.int .i64 x) ∧ w'.cell? ⟨H, 2, none⟩ = some (.int .u64 y) ∧ w'.cell? ⟨H, 3, none⟩ = some (.int .i64 r0) ∧ w'.cell? ⟨H, 4, none⟩ = some (.int .i64 r1) ∧ w'.cell? ⟨H, 5, none⟩ = some (.int .u64 r2) ∧ w'.cell? ⟨H, 6, none⟩ = some (.int .i64 r3) ∧ w'.cell? ⟨H, 7, none⟩ = some (.int .u64 r4) ∧ w'.cell? ⟨H, 8, none⟩ = some (.int .i64 s0) ∧ w'.cell? ⟨H, 9, none⟩ = some (.int .i64 s1) ∧ w'.cell? ⟨H, 10, none⟩ = some (.int .u64 s2) ∧ w'.cell? ⟨H, 11, none⟩ = some (.int .i64 s3) ∧ w'.cell? ⟨H, 12, none⟩ = some (.int .u64 s4) ∧ w'.cell? ⟨H, 13, none⟩ = some (.int .i64 a) ∧ w'.cell? ⟨H, 14, none⟩ = some (.int .i64 o)) w4 := ⟨X.out.blk.cell 8, A.out.cell 1, A.out.cell 2, A.out.cell 3, A.out.cell 4, A.out.cell 5, A.out.cell 6, A.out.cell 7, A.out.cell 8, A.out.cell 9, A.out.cell 10, A.out.cell 11, A.out.cell 12, A.out.cell 13, A.out.cell 14⟩
  refine pickA (v := ?_) 16 (some 6) rfl rfl (by kernel_rfl) (by kernel_rfl) (by kernel_rfl) (by decide) (fun _ _ _ h => h) (by rfl) ?_ (by assumption) ?_
  rotate_left
  · intro w'
    go_simp
    try with_reducible rfl
  try simp only [Act.put, List.setIfInBounds_toArray, List.set_cons_zero, List.set_cons_succ]
  refine doneL (by kernel_rfl) ?_ _
  clear hHeld
  go_wp2
  go_ret
  exact ⟨_, rfl, rb, rfl, Y.out, L', hLok, X.out, Kt.out, B.out⟩

end Go.Proofs.YtdogdinkopocaaaDoor
