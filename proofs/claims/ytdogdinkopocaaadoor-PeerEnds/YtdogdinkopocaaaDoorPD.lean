/- Package msg: CheckAsk, of any ask. -/
import Derived.Test.YtdogdinkopocaaaDoorPC
import Derived.Test.YtdogdinkopocaaaDoorKLD
namespace Go.Proofs.YtdogdinkopocaaaDoor
open Go.RowKit Go.Maps

theorem exec_bin {P : Program} {k : BinOp} {t t2 : TypeId} {x y : Operand} {oi : Oper} {ρ : Operand → Value} {xs ys : Array Value} {v : Value} {w : World} (hm : P.eqGuardType P.depth t = false) (hop : oi.op = Op.binOp k t x y t2) (hx : ρ x = .agg xs) (hy : ρ y = .agg ys) (hl : (binOp k t (.agg xs) (.agg ys)).run P w = .ok v w) : (execOp ρ oi).run P w = .ok (.value v) w := by
  simp [execOp, hop, hx, hy, run_eqGuard_agg w k t x y xs ys hm, hl, Result.andThen]
/-- A binary operation whose value is known, in a region that does not draw. -/
theorem wpList_bin_w {P : Program} {ops : Array Oper} {rest : List Oper} {o : Oper} {a : Act} {w : World} {Q : Exit → Act → World → Prop} (k : BinOp) (t : TypeId) (x y : Operand) (t2 : TypeId) (ho : o.op = .binOp k t x y t2) (hw : Region.wanted o (yielded ops a.tmps) = true) (hm : P.eqGuardType P.depth t = false) {xs ys : Array Value} {v : Value} (hx : a.eval x = .agg xs) (hy : a.eval y = .agg ys) (hl : (binOp k t (.agg xs) (.agg ys)).run P w = .ok v w)
    (h : wpList P ops Q rest (a.put o.dst v) w) : wpList P ops Q (o :: rest) a w := by
  unfold wpList
  rw [if_pos hw]
  refine Or.inl ?_
  unfold Oper.wp
  rw [exec_bin hm ho hx hy hl]
  exact h
def sameV (a b : Int × Int) : Bool := a.1 == b.1 && a.2 == b.2
theorem sameV_iff {a b : Int × Int} : sameV a b = true ↔ a = b := by
  obtain ⟨a1, a2⟩ := a
  obtain ⟨b1, b2⟩ := b
  simp [sameV]
/-- Is an ask zero? -/
def zA (k : Int) (v : Int × Int) (r s : Rf) (p : Int × Int) : Bool := k == 0 && (sameV v (0, 0) && (sameR r (0, 0, 0, 0, 0) && (sameR s (0, 0, 0, 0, 0) && sameV p (0, 0))))
theorem in_vec (d : Nat) (x y x' y' : Int) (w : World) : (Op.equalIn (d + 1 + 1) 27 (.agg #[.int .i64 x, .int .u64 y]) (.agg #[.int .i64 x', .int .u64 y'])).run Tryd.prog w = .ok (sameV (x, y) (x', y')) w := by
  have u1 := Tryd.underlying3
  have a1 := Tryd.isAgg3
  have z1 := Tryd.sizeOf3
  have u2 := Tryd.underlying23
  have a2 := Tryd.isAgg23
  have z2 := Tryd.sizeOf23
  have hS2 : Tryd.prog.underlying 27 = some (.struct (Tryd.prog.fieldsOf 27)) := by kernel_rfl
  have hp2 : Tryd.prog.stoodInHeld 27 = false := by kernel_rfl
  rw [run_equalIn_agg w (d + 1) 27 _ _ hS2 hp2]
  simp only [Program.fieldsOf, Tryd.underlying27]
  go_simp
  by_cases h1 : x = x' <;> by_cases h2 : y = y' <;> simp [h1, h2, sameV]
theorem in_owner (d : Nat) (x y x' y' : Int) (w : World) : (Op.equalIn (d + 1 + 1) 52 (.agg #[.int .i64 x, .int .i64 y]) (.agg #[.int .i64 x', .int .i64 y'])).run Tryd.prog w = .ok (sameV (x, y) (x', y')) w := by
  have u1 := Tryd.underlying3
  have a1 := Tryd.isAgg3
  have z1 := Tryd.sizeOf3
  have hS2 : Tryd.prog.underlying 52 = some (.struct (Tryd.prog.fieldsOf 52)) := by kernel_rfl
  have hp2 : Tryd.prog.stoodInHeld 52 = false := by kernel_rfl
  rw [run_equalIn_agg w (d + 1) 52 _ _ hS2 hp2]
  simp only [Program.fieldsOf, Tryd.underlying52]
  go_simp
  by_cases h1 : x = x' <;> by_cases h2 : y = y' <;> simp [h1, h2, sameV]
theorem in_key (d : Nat) (x y x' y' : Int) (w : World) : (Op.equalIn (d + 1 + 1) 25 (.agg #[.int .i64 x, .int .u64 y]) (.agg #[.int .i64 x', .int .u64 y'])).run Tryd.prog w = .ok (sameV (x, y) (x', y')) w := by
  have u1 := Tryd.underlying22
  have a1 := Tryd.isAgg22
  have z1 := Tryd.sizeOf22
  have u2 := Tryd.underlying23
  have a2 := Tryd.isAgg23
  have z2 := Tryd.sizeOf23
  have hS2 : Tryd.prog.underlying 25 = some (.struct (Tryd.prog.fieldsOf 25)) := by kernel_rfl
  have hp2 : Tryd.prog.stoodInHeld 25 = false := by kernel_rfl
  rw [run_equalIn_agg w (d + 1) 25 _ _ hS2 hp2]
  simp only [Program.fieldsOf, Tryd.underlying25]
  go_simp
  by_cases h1 : x = x' <;> by_cases h2 : y = y' <;> simp [h1, h2, sameV]
theorem in_ref (d : Nat) (i a b c e i' a' b' c' e' : Int) (w : World) : (Op.equalIn (d + 1 + 1 + 1) 29 (.agg #[.int .i64 i, .int .i64 a, .int .u64 b, .int .i64 c, .int .u64 e]) (.agg #[.int .i64 i', .int .i64 a', .int .u64 b', .int .i64 c', .int .u64 e'])).run Tryd.prog w = .ok (sameR (i, a, b, c, e) (i', a', b', c', e')) w := by
  have u1 := Tryd.underlying3
  have a1 := Tryd.isAgg3
  have z1 := Tryd.sizeOf3
  have u3 := Tryd.isAgg25
  have u4 := Tryd.sizeOf25
  have u5 := Tryd.isAgg27
  have u6 := Tryd.sizeOf27
  have e1 := in_key d
  have e2 := in_vec d
  have hS2 : Tryd.prog.underlying 29 = some (.struct (Tryd.prog.fieldsOf 29)) := by kernel_rfl
  have hp2 : Tryd.prog.stoodInHeld 29 = false := by kernel_rfl
  rw [run_equalIn_agg w (d + 1 + 1) 29 _ _ hS2 hp2]
  clear hS2 hp2
  simp only [Program.fieldsOf, Tryd.underlying29]
  go_simp
  have h9 : sameR (i, a, b, c, e) (i', a', b', c', e') = (i == i' && sameV (a, b) (a', b') && sameV (c, e) (c', e')) := rfl
  rw [h9]
  by_cases h1 : i = i' <;> rcases sameV (a, b) (a', b') with _ | _ <;> rcases sameV (c, e) (c', e') with _ | _ <;> simp [h1]
theorem eqaZ (k x y r0 r1 r2 r3 r4 s0 s1 s2 s3 s4 a o : Int) (w : World) : (binOp .eql 58 (.agg #[.int .i64 k, .int .i64 x, .int .u64 y, .int .i64 r0, .int .i64 r1, .int .u64 r2, .int .i64 r3, .int .u64 r4, .int .i64 s0, .int .i64 s1, .int .u64 s2, .int .i64 s3, .int .u64 s4, .int .i64 a, .int .i64 o]) (.agg #[.int .i64 0, .int .i64 0, .int .u64 0, .int .i64 0, .int .i64 0, .int .u64 0, .int .i64 0, .int .u64 0, .int .i64 0, .int .i64 0, .int .u64 0, .int .i64 0, .int .u64 0, .int .i64 0, .int .i64 0])).run Tryd.prog w = .ok (.bool (zA k (x, y) (r0, r1, r2, r3, r4) (s0, s1, s2, s3, s4) (a, o))) w := by
  have u1 := Tryd.underlying56
  have a1 := Tryd.isAgg56
  have z1 := Tryd.sizeOf56
  have u3 := Tryd.isAgg29
  have u4 := Tryd.sizeOf29
  have u5 := Tryd.isAgg27
  have u6 := Tryd.sizeOf27
  have u7 := Tryd.isAgg52
  have u8 := Tryd.sizeOf52
  have hS2 : Tryd.prog.underlying 58 = some (.struct (Tryd.prog.fieldsOf 58)) := by kernel_rfl
  have hp2 : Tryd.prog.stoodInHeld 58 = false := by kernel_rfl
  obtain ⟨dd, hd⟩ : ∃ dd, (10000 : Nat) = dd + 1 + 1 + 1 + 1 := ⟨9996, rfl⟩
  rw [run_eql_struct, hd, run_equalIn_agg w (dd + 1 + 1 + 1) 58 _ _ hS2 hp2]
  have e1 := in_ref dd
  have e2 := in_vec (dd + 1)
  have e3 := in_owner (dd + 1)
  clear hd hS2 hp2
  simp only [Program.fieldsOf, Tryd.underlying58]
  go_simp
  unfold zA
  by_cases h1 : k = 0 <;> rcases sameV (x, y) (0, 0) with _ | _ <;> rcases sameR (r0, r1, r2, r3, r4) (0, 0, 0, 0, 0) with _ | _ <;> rcases sameR (s0, s1, s2, s3, s4) (0, 0, 0, 0, 0) with _ | _ <;> rcases sameV (a, o) (0, 0) with _ | _ <;> simp [h1]
def akE : Bool → Int
  | true => 0
  | false => 40

set_option maxHeartbeats 8000000 in
set_option maxRecDepth 100000 in
theorem ack_1 (k x y r0 r1 r2 r3 r4 s0 s1 s2 s3 s4 a o : Int) (hk : k = 1) (hy : 0 ≤ y) (w : World) (hR : Ranks w) : Calls Tryd.prog 19 #[.agg #[.int .i64 k, .int .i64 x, .int .u64 y, .int .i64 r0, .int .i64 r1, .int .u64 r2, .int .i64 r3, .int .u64 r4, .int .i64 s0, .int .i64 s1, .int .u64 s2, .int .i64 s3, .int .u64 s4, .int .i64 a, .int .i64 o]] w fun e w' => e = .returned (.int .i64 (akE (zA 0 (0, 0) (r0, r1, r2, r3, r4) (s0, s1, s2, s3, s4) (a, o) && (rt x y && (true && true))))) ∧ Below w.heap.size w w' := by
  replace hk := hide hk
  have J := hide (IsB.new w #[.int .i64 k, .int .i64 x, .int .u64 y, .int .i64 r0, .int .i64 r1, .int .u64 r2, .int .i64 r3, .int .u64 r4, .int .i64 s0, .int .i64 s1, .int .u64 s2, .int .i64 s3, .int .u64 s4, .int .i64 a, .int .i64 o] 58)
  have B := hide (show Below w.heap.size w (w.alloc (.cells #[.int .i64 k, .int .i64 x, .int .u64 y, .int .i64 r0, .int .i64 r1, .int .u64 r2, .int .i64 r3, .int .u64 r4, .int .i64 s0, .int .i64 s1, .int .u64 s2, .int .i64 s3, .int .u64 s4, .int .i64 a, .int .i64 o] 58)) from (Below.refl _ w).alloc (Nat.le_refl _) _)
  have HR := hide (hR.below B.out)
  clear hR
  go_enter Tryd.func19, Tryd.ntmps19
  go_wp2_with fail
  generalize w.alloc (.cells #[.int .i64 k, .int .i64 x, .int .u64 y, .int .i64 r0, .int .i64 r1, .int .u64 r2, .int .i64 r3, .int .u64 r4, .int .i64 s0, .int .i64 s1, .int .u64 s2, .int .i64 s3, .int .u64 s4, .int .i64 a, .int .i64 o] 58) = W1 at J B HR ⊢
  generalize hH : w.heap.size = H at J ⊢
  replace hH := hide hH
  refine (parts_1 k hk.out _).mono ?_; rintro e w2 ⟨rfl, hb⟩
  replace J := hide (J.out.below hb)
  replace HR := hide (HR.out.below hb)
  replace B := hide (B.out.trans (hb.mono B.out.size))
  clear hb
  have hb := (Below.refl w2.heap.size w2).alloc (Nat.le_refl _) (.cells #[.bool true, .bool false, .bool false, .bool false] 81)
  have Q := hide (IsB.new w2 #[.bool true, .bool false, .bool false, .bool false] 81)
  replace J := hide (J.out.below hb)
  replace HR := hide (HR.out.below hb)
  replace B := hide (B.out.trans (hb.mono B.out.size))
  clear hb
  have ld := hide (load_ask J.out rfl)
  go_wp2_with (first | (refine wpList_load_w rfl 58 (.tmp 1) rfl rfl ld.out ?_))
  generalize w2.alloc (.cells #[.bool true, .bool false, .bool false, .bool false] 81) = W3 at J Q B HR ⊢
  clear ld
  generalize hG : w2.heap.size = G at Q ⊢
  replace hG := hide hG
  refine (strange_1 k x y r0 r1 r2 r3 r4 s0 s1 s2 s3 s4 a o _).mono ?_; rintro e w4 ⟨rfl, hb⟩
  replace J := hide (J.out.below hb)
  replace Q := hide (Q.out.below hb)
  replace HR := hide (HR.out.below hb)
  replace B := hide (B.out.trans (hb.mono B.out.size))
  clear hb
  generalize hA0 : Value.agg #[.int .i64 k, .int .i64 x, .int .u64 y, .int .i64 r0, .int .i64 r1, .int .u64 r2, .int .i64 r3, .int .u64 r4, .int .i64 s0, .int .i64 s1, .int .u64 s2, .int .i64 s3, .int .u64 s4, .int .i64 a, .int .i64 o] = A0
  clear hA0
  have hgd : Hid (Tryd.prog.eqGuardType Tryd.prog.depth 58 = false) := by show Tryd.prog.eqGuardType Tryd.prog.depth 58 = false; kernel_rfl
  have he := eqaZ 0 0 0 r0 r1 r2 r3 r4 s0 s1 s2 s3 s4 a o w4
  rcases hz : zA 0 (0, 0) (r0, r1, r2, r3, r4) (s0, s1, s2, s3, s4) (a, o) with _ | _
  · rw [hz] at he
    go_wp2_with (first | ((with_reducible refine wpList_bin_w .eql 58 (.tmp 15) (.tmp 16) 58 ?ho ?hw hgd.out ?hx ?hy he ?h); (case ho => rfl); (case hw => rfl); (case hx => rfl); (case hy => rfl)))
    refine (allowed_no _).mono ?_; intro e w9 hE; obtain ⟨rfl, hw9⟩ := hE
    rw [hw9]
    clear hw9
    go_wp2
    go_ret
    exact ⟨by rw [hz]; rfl, B.out⟩
  · rw [hz] at he
    have c0 : w4.cell? ⟨H, 0, none⟩ = some (.int .i64 k) := J.out.cell 0
    have c1 : w4.cell? ⟨H, 1, none⟩ = some (.int .i64 x) := J.out.cell 1
    have c2 : w4.cell? ⟨H, 2, none⟩ = some (.int .u64 y) := J.out.cell 2
    have c3 : w4.cell? ⟨H, 3, none⟩ = some (.int .i64 r0) := J.out.cell 3
    have c4 : w4.cell? ⟨H, 4, none⟩ = some (.int .i64 r1) := J.out.cell 4
    have c5 : w4.cell? ⟨H, 5, none⟩ = some (.int .u64 r2) := J.out.cell 5
    have c6 : w4.cell? ⟨H, 6, none⟩ = some (.int .i64 r3) := J.out.cell 6
    have c7 : w4.cell? ⟨H, 7, none⟩ = some (.int .u64 r4) := J.out.cell 7
    have c8 : w4.cell? ⟨H, 8, none⟩ = some (.int .i64 s0) := J.out.cell 8
    have c9 : w4.cell? ⟨H, 9, none⟩ = some (.int .i64 s1) := J.out.cell 9
    have c10 : w4.cell? ⟨H, 10, none⟩ = some (.int .u64 s2) := J.out.cell 10
    have c11 : w4.cell? ⟨H, 11, none⟩ = some (.int .i64 s3) := J.out.cell 11
    have c12 : w4.cell? ⟨H, 12, none⟩ = some (.int .u64 s4) := J.out.cell 12
    have c13 : w4.cell? ⟨H, 13, none⟩ = some (.int .i64 a) := J.out.cell 13
    have c14 : w4.cell? ⟨H, 14, none⟩ = some (.int .i64 o) := J.out.cell 14
    have d0 : w4.cell? ⟨G, 0, none⟩ = some (.bool true) := Q.out.cell 0
    have d1 : w4.cell? ⟨G, 1, none⟩ = some (.bool false) := Q.out.cell 1
    have d2 : w4.cell? ⟨G, 2, none⟩ = some (.bool false) := Q.out.cell 2
    have d3 : w4.cell? ⟨G, 3, none⟩ = some (.bool false) := Q.out.cell 3
    go_wp2_with (first | ((with_reducible refine wpList_bin_w .eql 58 (.tmp 15) (.tmp 16) 58 ?ho ?hw hgd.out ?hx ?hy he ?h); (case ho => rfl); (case hw => rfl); (case hx => rfl); (case hy => rfl)))
    clear c0 c1 c2 c3 c4 c5 c6 c7 c8 c9 c10 c11 c12 c13 c14 d0 d1 d2 d3
    clear he
    refine (vright_any x y hy _).mono ?_; rintro e w5 ⟨rfl, hb⟩
    replace J := hide (J.out.below hb)
    replace Q := hide (Q.out.below hb)
    replace HR := hide (HR.out.below hb)
    replace B := hide (B.out.trans (hb.mono B.out.size))
    clear hb
    rcases hq : rt x y with _ | _
    · rw [reS_no hq]
      have c0 : w5.cell? ⟨H, 0, none⟩ = some (.int .i64 k) := J.out.cell 0
      have c1 : w5.cell? ⟨H, 1, none⟩ = some (.int .i64 x) := J.out.cell 1
      have c2 : w5.cell? ⟨H, 2, none⟩ = some (.int .u64 y) := J.out.cell 2
      have c3 : w5.cell? ⟨H, 3, none⟩ = some (.int .i64 r0) := J.out.cell 3
      have c4 : w5.cell? ⟨H, 4, none⟩ = some (.int .i64 r1) := J.out.cell 4
      have c5 : w5.cell? ⟨H, 5, none⟩ = some (.int .u64 r2) := J.out.cell 5
      have c6 : w5.cell? ⟨H, 6, none⟩ = some (.int .i64 r3) := J.out.cell 6
      have c7 : w5.cell? ⟨H, 7, none⟩ = some (.int .u64 r4) := J.out.cell 7
      have c8 : w5.cell? ⟨H, 8, none⟩ = some (.int .i64 s0) := J.out.cell 8
      have c9 : w5.cell? ⟨H, 9, none⟩ = some (.int .i64 s1) := J.out.cell 9
      have c10 : w5.cell? ⟨H, 10, none⟩ = some (.int .u64 s2) := J.out.cell 10
      have c11 : w5.cell? ⟨H, 11, none⟩ = some (.int .i64 s3) := J.out.cell 11
      have c12 : w5.cell? ⟨H, 12, none⟩ = some (.int .u64 s4) := J.out.cell 12
      have c13 : w5.cell? ⟨H, 13, none⟩ = some (.int .i64 a) := J.out.cell 13
      have c14 : w5.cell? ⟨H, 14, none⟩ = some (.int .i64 o) := J.out.cell 14
      have d0 : w5.cell? ⟨G, 0, none⟩ = some (.bool true) := Q.out.cell 0
      have d1 : w5.cell? ⟨G, 1, none⟩ = some (.bool false) := Q.out.cell 1
      have d2 : w5.cell? ⟨G, 2, none⟩ = some (.bool false) := Q.out.cell 2
      have d3 : w5.cell? ⟨G, 3, none⟩ = some (.bool false) := Q.out.cell 3
      go_wp2_with fail
      refine (allowed_no _).mono ?_; intro e w9 hE; obtain ⟨rfl, hw9⟩ := hE
      rw [hw9]
      clear hw9
      go_wp2
      go_ret
      exact ⟨by rw [hz, hq]; rfl, B.out⟩
    · rw [reS_yes hq]
      have c0 : w5.cell? ⟨H, 0, none⟩ = some (.int .i64 k) := J.out.cell 0
      have c1 : w5.cell? ⟨H, 1, none⟩ = some (.int .i64 x) := J.out.cell 1
      have c2 : w5.cell? ⟨H, 2, none⟩ = some (.int .u64 y) := J.out.cell 2
      have c3 : w5.cell? ⟨H, 3, none⟩ = some (.int .i64 r0) := J.out.cell 3
      have c4 : w5.cell? ⟨H, 4, none⟩ = some (.int .i64 r1) := J.out.cell 4
      have c5 : w5.cell? ⟨H, 5, none⟩ = some (.int .u64 r2) := J.out.cell 5
      have c6 : w5.cell? ⟨H, 6, none⟩ = some (.int .i64 r3) := J.out.cell 6
      have c7 : w5.cell? ⟨H, 7, none⟩ = some (.int .u64 r4) := J.out.cell 7
      have c8 : w5.cell? ⟨H, 8, none⟩ = some (.int .i64 s0) := J.out.cell 8
      have c9 : w5.cell? ⟨H, 9, none⟩ = some (.int .i64 s1) := J.out.cell 9
      have c10 : w5.cell? ⟨H, 10, none⟩ = some (.int .u64 s2) := J.out.cell 10
      have c11 : w5.cell? ⟨H, 11, none⟩ = some (.int .i64 s3) := J.out.cell 11
      have c12 : w5.cell? ⟨H, 12, none⟩ = some (.int .u64 s4) := J.out.cell 12
      have c13 : w5.cell? ⟨H, 13, none⟩ = some (.int .i64 a) := J.out.cell 13
      have c14 : w5.cell? ⟨H, 14, none⟩ = some (.int .i64 o) := J.out.cell 14
      have d0 : w5.cell? ⟨G, 0, none⟩ = some (.bool true) := Q.out.cell 0
      have d1 : w5.cell? ⟨G, 1, none⟩ = some (.bool false) := Q.out.cell 1
      have d2 : w5.cell? ⟨G, 2, none⟩ = some (.bool false) := Q.out.cell 2
      have d3 : w5.cell? ⟨G, 3, none⟩ = some (.bool false) := Q.out.cell 3
      go_wp2_with fail
      refine (allowed_yes _).mono ?_; intro e w9 hE; obtain ⟨rfl, hw9⟩ := hE
      rw [hw9]
      clear hw9
      go_wp2
      go_ret
      exact ⟨by rw [hz, hq]; rfl, B.out⟩

set_option maxHeartbeats 8000000 in
set_option maxRecDepth 100000 in
theorem ack_2 (k x y r0 r1 r2 r3 r4 s0 s1 s2 s3 s4 a o : Int) (hk : k = 2 ∨ k = 9 ∨ k = 10) (hy : 0 ≤ y) (w : World) (hR : Ranks w) : Calls Tryd.prog 19 #[.agg #[.int .i64 k, .int .i64 x, .int .u64 y, .int .i64 r0, .int .i64 r1, .int .u64 r2, .int .i64 r3, .int .u64 r4, .int .i64 s0, .int .i64 s1, .int .u64 s2, .int .i64 s3, .int .u64 s4, .int .i64 a, .int .i64 o]] w fun e w' => e = .returned (.int .i64 (akE (zA 0 (x, y) (r0, r1, r2, r3, r4) (s0, s1, s2, s3, s4) (a, o) && (rt x y && (true && true))))) ∧ Below w.heap.size w w' := by
  replace hk := hide hk
  have J := hide (IsB.new w #[.int .i64 k, .int .i64 x, .int .u64 y, .int .i64 r0, .int .i64 r1, .int .u64 r2, .int .i64 r3, .int .u64 r4, .int .i64 s0, .int .i64 s1, .int .u64 s2, .int .i64 s3, .int .u64 s4, .int .i64 a, .int .i64 o] 58)
  have B := hide (show Below w.heap.size w (w.alloc (.cells #[.int .i64 k, .int .i64 x, .int .u64 y, .int .i64 r0, .int .i64 r1, .int .u64 r2, .int .i64 r3, .int .u64 r4, .int .i64 s0, .int .i64 s1, .int .u64 s2, .int .i64 s3, .int .u64 s4, .int .i64 a, .int .i64 o] 58)) from (Below.refl _ w).alloc (Nat.le_refl _) _)
  have HR := hide (hR.below B.out)
  clear hR
  go_enter Tryd.func19, Tryd.ntmps19
  go_wp2_with fail
  generalize w.alloc (.cells #[.int .i64 k, .int .i64 x, .int .u64 y, .int .i64 r0, .int .i64 r1, .int .u64 r2, .int .i64 r3, .int .u64 r4, .int .i64 s0, .int .i64 s1, .int .u64 s2, .int .i64 s3, .int .u64 s4, .int .i64 a, .int .i64 o] 58) = W1 at J B HR ⊢
  generalize hH : w.heap.size = H at J ⊢
  replace hH := hide hH
  refine (parts_2 k hk.out _).mono ?_; rintro e w2 ⟨rfl, hb⟩
  replace J := hide (J.out.below hb)
  replace HR := hide (HR.out.below hb)
  replace B := hide (B.out.trans (hb.mono B.out.size))
  clear hb
  have hb := (Below.refl w2.heap.size w2).alloc (Nat.le_refl _) (.cells #[.bool false, .bool false, .bool false, .bool false] 81)
  have Q := hide (IsB.new w2 #[.bool false, .bool false, .bool false, .bool false] 81)
  replace J := hide (J.out.below hb)
  replace HR := hide (HR.out.below hb)
  replace B := hide (B.out.trans (hb.mono B.out.size))
  clear hb
  have ld := hide (load_ask J.out rfl)
  go_wp2_with (first | (refine wpList_load_w rfl 58 (.tmp 1) rfl rfl ld.out ?_))
  generalize w2.alloc (.cells #[.bool false, .bool false, .bool false, .bool false] 81) = W3 at J Q B HR ⊢
  clear ld
  generalize hG : w2.heap.size = G at Q ⊢
  replace hG := hide hG
  refine (strange_2 k x y r0 r1 r2 r3 r4 s0 s1 s2 s3 s4 a o _).mono ?_; rintro e w4 ⟨rfl, hb⟩
  replace J := hide (J.out.below hb)
  replace Q := hide (Q.out.below hb)
  replace HR := hide (HR.out.below hb)
  replace B := hide (B.out.trans (hb.mono B.out.size))
  clear hb
  generalize hA0 : Value.agg #[.int .i64 k, .int .i64 x, .int .u64 y, .int .i64 r0, .int .i64 r1, .int .u64 r2, .int .i64 r3, .int .u64 r4, .int .i64 s0, .int .i64 s1, .int .u64 s2, .int .i64 s3, .int .u64 s4, .int .i64 a, .int .i64 o] = A0
  clear hA0
  have hgd : Hid (Tryd.prog.eqGuardType Tryd.prog.depth 58 = false) := by show Tryd.prog.eqGuardType Tryd.prog.depth 58 = false; kernel_rfl
  have he := eqaZ 0 x y r0 r1 r2 r3 r4 s0 s1 s2 s3 s4 a o w4
  rcases hz : zA 0 (x, y) (r0, r1, r2, r3, r4) (s0, s1, s2, s3, s4) (a, o) with _ | _
  · rw [hz] at he
    go_wp2_with (first | ((with_reducible refine wpList_bin_w .eql 58 (.tmp 15) (.tmp 16) 58 ?ho ?hw hgd.out ?hx ?hy he ?h); (case ho => rfl); (case hw => rfl); (case hx => rfl); (case hy => rfl)))
    refine (allowed_no _).mono ?_; intro e w9 hE; obtain ⟨rfl, hw9⟩ := hE
    rw [hw9]
    clear hw9
    go_wp2
    go_ret
    exact ⟨by rw [hz]; rfl, B.out⟩
  · rw [hz] at he
    have c0 : w4.cell? ⟨H, 0, none⟩ = some (.int .i64 k) := J.out.cell 0
    have c1 : w4.cell? ⟨H, 1, none⟩ = some (.int .i64 x) := J.out.cell 1
    have c2 : w4.cell? ⟨H, 2, none⟩ = some (.int .u64 y) := J.out.cell 2
    have c3 : w4.cell? ⟨H, 3, none⟩ = some (.int .i64 r0) := J.out.cell 3
    have c4 : w4.cell? ⟨H, 4, none⟩ = some (.int .i64 r1) := J.out.cell 4
    have c5 : w4.cell? ⟨H, 5, none⟩ = some (.int .u64 r2) := J.out.cell 5
    have c6 : w4.cell? ⟨H, 6, none⟩ = some (.int .i64 r3) := J.out.cell 6
    have c7 : w4.cell? ⟨H, 7, none⟩ = some (.int .u64 r4) := J.out.cell 7
    have c8 : w4.cell? ⟨H, 8, none⟩ = some (.int .i64 s0) := J.out.cell 8
    have c9 : w4.cell? ⟨H, 9, none⟩ = some (.int .i64 s1) := J.out.cell 9
    have c10 : w4.cell? ⟨H, 10, none⟩ = some (.int .u64 s2) := J.out.cell 10
    have c11 : w4.cell? ⟨H, 11, none⟩ = some (.int .i64 s3) := J.out.cell 11
    have c12 : w4.cell? ⟨H, 12, none⟩ = some (.int .u64 s4) := J.out.cell 12
    have c13 : w4.cell? ⟨H, 13, none⟩ = some (.int .i64 a) := J.out.cell 13
    have c14 : w4.cell? ⟨H, 14, none⟩ = some (.int .i64 o) := J.out.cell 14
    have d0 : w4.cell? ⟨G, 0, none⟩ = some (.bool false) := Q.out.cell 0
    have d1 : w4.cell? ⟨G, 1, none⟩ = some (.bool false) := Q.out.cell 1
    have d2 : w4.cell? ⟨G, 2, none⟩ = some (.bool false) := Q.out.cell 2
    have d3 : w4.cell? ⟨G, 3, none⟩ = some (.bool false) := Q.out.cell 3
    go_wp2_with (first | ((with_reducible refine wpList_bin_w .eql 58 (.tmp 15) (.tmp 16) 58 ?ho ?hw hgd.out ?hx ?hy he ?h); (case ho => rfl); (case hw => rfl); (case hx => rfl); (case hy => rfl)))
    clear c0 c1 c2 c3 c4 c5 c6 c7 c8 c9 c10 c11 c12 c13 c14 d0 d1 d2 d3
    clear he
    refine (vright_any x y hy _).mono ?_; rintro e w5 ⟨rfl, hb⟩
    replace J := hide (J.out.below hb)
    replace Q := hide (Q.out.below hb)
    replace HR := hide (HR.out.below hb)
    replace B := hide (B.out.trans (hb.mono B.out.size))
    clear hb
    rcases hq : rt x y with _ | _
    · rw [reS_no hq]
      have c0 : w5.cell? ⟨H, 0, none⟩ = some (.int .i64 k) := J.out.cell 0
      have c1 : w5.cell? ⟨H, 1, none⟩ = some (.int .i64 x) := J.out.cell 1
      have c2 : w5.cell? ⟨H, 2, none⟩ = some (.int .u64 y) := J.out.cell 2
      have c3 : w5.cell? ⟨H, 3, none⟩ = some (.int .i64 r0) := J.out.cell 3
      have c4 : w5.cell? ⟨H, 4, none⟩ = some (.int .i64 r1) := J.out.cell 4
      have c5 : w5.cell? ⟨H, 5, none⟩ = some (.int .u64 r2) := J.out.cell 5
      have c6 : w5.cell? ⟨H, 6, none⟩ = some (.int .i64 r3) := J.out.cell 6
      have c7 : w5.cell? ⟨H, 7, none⟩ = some (.int .u64 r4) := J.out.cell 7
      have c8 : w5.cell? ⟨H, 8, none⟩ = some (.int .i64 s0) := J.out.cell 8
      have c9 : w5.cell? ⟨H, 9, none⟩ = some (.int .i64 s1) := J.out.cell 9
      have c10 : w5.cell? ⟨H, 10, none⟩ = some (.int .u64 s2) := J.out.cell 10
      have c11 : w5.cell? ⟨H, 11, none⟩ = some (.int .i64 s3) := J.out.cell 11
      have c12 : w5.cell? ⟨H, 12, none⟩ = some (.int .u64 s4) := J.out.cell 12
      have c13 : w5.cell? ⟨H, 13, none⟩ = some (.int .i64 a) := J.out.cell 13
      have c14 : w5.cell? ⟨H, 14, none⟩ = some (.int .i64 o) := J.out.cell 14
      have d0 : w5.cell? ⟨G, 0, none⟩ = some (.bool false) := Q.out.cell 0
      have d1 : w5.cell? ⟨G, 1, none⟩ = some (.bool false) := Q.out.cell 1
      have d2 : w5.cell? ⟨G, 2, none⟩ = some (.bool false) := Q.out.cell 2
      have d3 : w5.cell? ⟨G, 3, none⟩ = some (.bool false) := Q.out.cell 3
      go_wp2_with fail
      refine (allowed_no _).mono ?_; intro e w9 hE; obtain ⟨rfl, hw9⟩ := hE
      rw [hw9]
      clear hw9
      go_wp2
      go_ret
      exact ⟨by rw [hz, hq]; rfl, B.out⟩
    · rw [reS_yes hq]
      have c0 : w5.cell? ⟨H, 0, none⟩ = some (.int .i64 k) := J.out.cell 0
      have c1 : w5.cell? ⟨H, 1, none⟩ = some (.int .i64 x) := J.out.cell 1
      have c2 : w5.cell? ⟨H, 2, none⟩ = some (.int .u64 y) := J.out.cell 2
      have c3 : w5.cell? ⟨H, 3, none⟩ = some (.int .i64 r0) := J.out.cell 3
      have c4 : w5.cell? ⟨H, 4, none⟩ = some (.int .i64 r1) := J.out.cell 4
      have c5 : w5.cell? ⟨H, 5, none⟩ = some (.int .u64 r2) := J.out.cell 5
      have c6 : w5.cell? ⟨H, 6, none⟩ = some (.int .i64 r3) := J.out.cell 6
      have c7 : w5.cell? ⟨H, 7, none⟩ = some (.int .u64 r4) := J.out.cell 7
      have c8 : w5.cell? ⟨H, 8, none⟩ = some (.int .i64 s0) := J.out.cell 8
      have c9 : w5.cell? ⟨H, 9, none⟩ = some (.int .i64 s1) := J.out.cell 9
      have c10 : w5.cell? ⟨H, 10, none⟩ = some (.int .u64 s2) := J.out.cell 10
      have c11 : w5.cell? ⟨H, 11, none⟩ = some (.int .i64 s3) := J.out.cell 11
      have c12 : w5.cell? ⟨H, 12, none⟩ = some (.int .u64 s4) := J.out.cell 12
      have c13 : w5.cell? ⟨H, 13, none⟩ = some (.int .i64 a) := J.out.cell 13
      have c14 : w5.cell? ⟨H, 14, none⟩ = some (.int .i64 o) := J.out.cell 14
      have d0 : w5.cell? ⟨G, 0, none⟩ = some (.bool false) := Q.out.cell 0
      have d1 : w5.cell? ⟨G, 1, none⟩ = some (.bool false) := Q.out.cell 1
      have d2 : w5.cell? ⟨G, 2, none⟩ = some (.bool false) := Q.out.cell 2
      have d3 : w5.cell? ⟨G, 3, none⟩ = some (.bool false) := Q.out.cell 3
      go_wp2_with fail
      refine (allowed_yes _).mono ?_; intro e w9 hE; obtain ⟨rfl, hw9⟩ := hE
      rw [hw9]
      clear hw9
      go_wp2
      go_ret
      exact ⟨by rw [hz, hq]; rfl, B.out⟩

set_option maxHeartbeats 8000000 in
set_option maxRecDepth 100000 in
theorem ack_3 (k x y r0 r1 r2 r3 r4 s0 s1 s2 s3 s4 a o : Int) (hk : k = 3 ∨ k = 4 ∨ k = 8) (hy : 0 ≤ y) (w : World) (hR : Ranks w) : Calls Tryd.prog 19 #[.agg #[.int .i64 k, .int .i64 x, .int .u64 y, .int .i64 r0, .int .i64 r1, .int .u64 r2, .int .i64 r3, .int .u64 r4, .int .i64 s0, .int .i64 s1, .int .u64 s2, .int .i64 s3, .int .u64 s4, .int .i64 a, .int .i64 o]] w fun e w' => e = .returned (.int .i64 (akE (zA 0 (0, 0) (r0, r1, r2, r3, r4) (s0, s1, s2, s3, s4) (0, 0) && (rt x y && (true && true))))) ∧ Below w.heap.size w w' := by
  replace hk := hide hk
  have J := hide (IsB.new w #[.int .i64 k, .int .i64 x, .int .u64 y, .int .i64 r0, .int .i64 r1, .int .u64 r2, .int .i64 r3, .int .u64 r4, .int .i64 s0, .int .i64 s1, .int .u64 s2, .int .i64 s3, .int .u64 s4, .int .i64 a, .int .i64 o] 58)
  have B := hide (show Below w.heap.size w (w.alloc (.cells #[.int .i64 k, .int .i64 x, .int .u64 y, .int .i64 r0, .int .i64 r1, .int .u64 r2, .int .i64 r3, .int .u64 r4, .int .i64 s0, .int .i64 s1, .int .u64 s2, .int .i64 s3, .int .u64 s4, .int .i64 a, .int .i64 o] 58)) from (Below.refl _ w).alloc (Nat.le_refl _) _)
  have HR := hide (hR.below B.out)
  clear hR
  go_enter Tryd.func19, Tryd.ntmps19
  go_wp2_with fail
  generalize w.alloc (.cells #[.int .i64 k, .int .i64 x, .int .u64 y, .int .i64 r0, .int .i64 r1, .int .u64 r2, .int .i64 r3, .int .u64 r4, .int .i64 s0, .int .i64 s1, .int .u64 s2, .int .i64 s3, .int .u64 s4, .int .i64 a, .int .i64 o] 58) = W1 at J B HR ⊢
  generalize hH : w.heap.size = H at J ⊢
  replace hH := hide hH
  refine (parts_3 k hk.out _).mono ?_; rintro e w2 ⟨rfl, hb⟩
  replace J := hide (J.out.below hb)
  replace HR := hide (HR.out.below hb)
  replace B := hide (B.out.trans (hb.mono B.out.size))
  clear hb
  have hb := (Below.refl w2.heap.size w2).alloc (Nat.le_refl _) (.cells #[.bool true, .bool false, .bool false, .bool true] 81)
  have Q := hide (IsB.new w2 #[.bool true, .bool false, .bool false, .bool true] 81)
  replace J := hide (J.out.below hb)
  replace HR := hide (HR.out.below hb)
  replace B := hide (B.out.trans (hb.mono B.out.size))
  clear hb
  have ld := hide (load_ask J.out rfl)
  go_wp2_with (first | (refine wpList_load_w rfl 58 (.tmp 1) rfl rfl ld.out ?_))
  generalize w2.alloc (.cells #[.bool true, .bool false, .bool false, .bool true] 81) = W3 at J Q B HR ⊢
  clear ld
  generalize hG : w2.heap.size = G at Q ⊢
  replace hG := hide hG
  refine (strange_3 k x y r0 r1 r2 r3 r4 s0 s1 s2 s3 s4 a o _).mono ?_; rintro e w4 ⟨rfl, hb⟩
  replace J := hide (J.out.below hb)
  replace Q := hide (Q.out.below hb)
  replace HR := hide (HR.out.below hb)
  replace B := hide (B.out.trans (hb.mono B.out.size))
  clear hb
  generalize hA0 : Value.agg #[.int .i64 k, .int .i64 x, .int .u64 y, .int .i64 r0, .int .i64 r1, .int .u64 r2, .int .i64 r3, .int .u64 r4, .int .i64 s0, .int .i64 s1, .int .u64 s2, .int .i64 s3, .int .u64 s4, .int .i64 a, .int .i64 o] = A0
  clear hA0
  have hgd : Hid (Tryd.prog.eqGuardType Tryd.prog.depth 58 = false) := by show Tryd.prog.eqGuardType Tryd.prog.depth 58 = false; kernel_rfl
  have he := eqaZ 0 0 0 r0 r1 r2 r3 r4 s0 s1 s2 s3 s4 0 0 w4
  rcases hz : zA 0 (0, 0) (r0, r1, r2, r3, r4) (s0, s1, s2, s3, s4) (0, 0) with _ | _
  · rw [hz] at he
    go_wp2_with (first | ((with_reducible refine wpList_bin_w .eql 58 (.tmp 15) (.tmp 16) 58 ?ho ?hw hgd.out ?hx ?hy he ?h); (case ho => rfl); (case hw => rfl); (case hx => rfl); (case hy => rfl)))
    refine (allowed_no _).mono ?_; intro e w9 hE; obtain ⟨rfl, hw9⟩ := hE
    rw [hw9]
    clear hw9
    go_wp2
    go_ret
    exact ⟨by rw [hz]; rfl, B.out⟩
  · rw [hz] at he
    have c0 : w4.cell? ⟨H, 0, none⟩ = some (.int .i64 k) := J.out.cell 0
    have c1 : w4.cell? ⟨H, 1, none⟩ = some (.int .i64 x) := J.out.cell 1
    have c2 : w4.cell? ⟨H, 2, none⟩ = some (.int .u64 y) := J.out.cell 2
    have c3 : w4.cell? ⟨H, 3, none⟩ = some (.int .i64 r0) := J.out.cell 3
    have c4 : w4.cell? ⟨H, 4, none⟩ = some (.int .i64 r1) := J.out.cell 4
    have c5 : w4.cell? ⟨H, 5, none⟩ = some (.int .u64 r2) := J.out.cell 5
    have c6 : w4.cell? ⟨H, 6, none⟩ = some (.int .i64 r3) := J.out.cell 6
    have c7 : w4.cell? ⟨H, 7, none⟩ = some (.int .u64 r4) := J.out.cell 7
    have c8 : w4.cell? ⟨H, 8, none⟩ = some (.int .i64 s0) := J.out.cell 8
    have c9 : w4.cell? ⟨H, 9, none⟩ = some (.int .i64 s1) := J.out.cell 9
    have c10 : w4.cell? ⟨H, 10, none⟩ = some (.int .u64 s2) := J.out.cell 10
    have c11 : w4.cell? ⟨H, 11, none⟩ = some (.int .i64 s3) := J.out.cell 11
    have c12 : w4.cell? ⟨H, 12, none⟩ = some (.int .u64 s4) := J.out.cell 12
    have c13 : w4.cell? ⟨H, 13, none⟩ = some (.int .i64 a) := J.out.cell 13
    have c14 : w4.cell? ⟨H, 14, none⟩ = some (.int .i64 o) := J.out.cell 14
    have d0 : w4.cell? ⟨G, 0, none⟩ = some (.bool true) := Q.out.cell 0
    have d1 : w4.cell? ⟨G, 1, none⟩ = some (.bool false) := Q.out.cell 1
    have d2 : w4.cell? ⟨G, 2, none⟩ = some (.bool false) := Q.out.cell 2
    have d3 : w4.cell? ⟨G, 3, none⟩ = some (.bool true) := Q.out.cell 3
    go_wp2_with (first | ((with_reducible refine wpList_bin_w .eql 58 (.tmp 15) (.tmp 16) 58 ?ho ?hw hgd.out ?hx ?hy he ?h); (case ho => rfl); (case hw => rfl); (case hx => rfl); (case hy => rfl)))
    clear c0 c1 c2 c3 c4 c5 c6 c7 c8 c9 c10 c11 c12 c13 c14 d0 d1 d2 d3
    clear he
    refine (vright_any x y hy _).mono ?_; rintro e w5 ⟨rfl, hb⟩
    replace J := hide (J.out.below hb)
    replace Q := hide (Q.out.below hb)
    replace HR := hide (HR.out.below hb)
    replace B := hide (B.out.trans (hb.mono B.out.size))
    clear hb
    rcases hq : rt x y with _ | _
    · rw [reS_no hq]
      have c0 : w5.cell? ⟨H, 0, none⟩ = some (.int .i64 k) := J.out.cell 0
      have c1 : w5.cell? ⟨H, 1, none⟩ = some (.int .i64 x) := J.out.cell 1
      have c2 : w5.cell? ⟨H, 2, none⟩ = some (.int .u64 y) := J.out.cell 2
      have c3 : w5.cell? ⟨H, 3, none⟩ = some (.int .i64 r0) := J.out.cell 3
      have c4 : w5.cell? ⟨H, 4, none⟩ = some (.int .i64 r1) := J.out.cell 4
      have c5 : w5.cell? ⟨H, 5, none⟩ = some (.int .u64 r2) := J.out.cell 5
      have c6 : w5.cell? ⟨H, 6, none⟩ = some (.int .i64 r3) := J.out.cell 6
      have c7 : w5.cell? ⟨H, 7, none⟩ = some (.int .u64 r4) := J.out.cell 7
      have c8 : w5.cell? ⟨H, 8, none⟩ = some (.int .i64 s0) := J.out.cell 8
      have c9 : w5.cell? ⟨H, 9, none⟩ = some (.int .i64 s1) := J.out.cell 9
      have c10 : w5.cell? ⟨H, 10, none⟩ = some (.int .u64 s2) := J.out.cell 10
      have c11 : w5.cell? ⟨H, 11, none⟩ = some (.int .i64 s3) := J.out.cell 11
      have c12 : w5.cell? ⟨H, 12, none⟩ = some (.int .u64 s4) := J.out.cell 12
      have c13 : w5.cell? ⟨H, 13, none⟩ = some (.int .i64 a) := J.out.cell 13
      have c14 : w5.cell? ⟨H, 14, none⟩ = some (.int .i64 o) := J.out.cell 14
      have d0 : w5.cell? ⟨G, 0, none⟩ = some (.bool true) := Q.out.cell 0
      have d1 : w5.cell? ⟨G, 1, none⟩ = some (.bool false) := Q.out.cell 1
      have d2 : w5.cell? ⟨G, 2, none⟩ = some (.bool false) := Q.out.cell 2
      have d3 : w5.cell? ⟨G, 3, none⟩ = some (.bool true) := Q.out.cell 3
      go_wp2_with fail
      refine (allowed_no _).mono ?_; intro e w9 hE; obtain ⟨rfl, hw9⟩ := hE
      rw [hw9]
      clear hw9
      go_wp2
      go_ret
      exact ⟨by rw [hz, hq]; rfl, B.out⟩
    · rw [reS_yes hq]
      have c0 : w5.cell? ⟨H, 0, none⟩ = some (.int .i64 k) := J.out.cell 0
      have c1 : w5.cell? ⟨H, 1, none⟩ = some (.int .i64 x) := J.out.cell 1
      have c2 : w5.cell? ⟨H, 2, none⟩ = some (.int .u64 y) := J.out.cell 2
      have c3 : w5.cell? ⟨H, 3, none⟩ = some (.int .i64 r0) := J.out.cell 3
      have c4 : w5.cell? ⟨H, 4, none⟩ = some (.int .i64 r1) := J.out.cell 4
      have c5 : w5.cell? ⟨H, 5, none⟩ = some (.int .u64 r2) := J.out.cell 5
      have c6 : w5.cell? ⟨H, 6, none⟩ = some (.int .i64 r3) := J.out.cell 6
      have c7 : w5.cell? ⟨H, 7, none⟩ = some (.int .u64 r4) := J.out.cell 7
      have c8 : w5.cell? ⟨H, 8, none⟩ = some (.int .i64 s0) := J.out.cell 8
      have c9 : w5.cell? ⟨H, 9, none⟩ = some (.int .i64 s1) := J.out.cell 9
      have c10 : w5.cell? ⟨H, 10, none⟩ = some (.int .u64 s2) := J.out.cell 10
      have c11 : w5.cell? ⟨H, 11, none⟩ = some (.int .i64 s3) := J.out.cell 11
      have c12 : w5.cell? ⟨H, 12, none⟩ = some (.int .u64 s4) := J.out.cell 12
      have c13 : w5.cell? ⟨H, 13, none⟩ = some (.int .i64 a) := J.out.cell 13
      have c14 : w5.cell? ⟨H, 14, none⟩ = some (.int .i64 o) := J.out.cell 14
      have d0 : w5.cell? ⟨G, 0, none⟩ = some (.bool true) := Q.out.cell 0
      have d1 : w5.cell? ⟨G, 1, none⟩ = some (.bool false) := Q.out.cell 1
      have d2 : w5.cell? ⟨G, 2, none⟩ = some (.bool false) := Q.out.cell 2
      have d3 : w5.cell? ⟨G, 3, none⟩ = some (.bool true) := Q.out.cell 3
      go_wp2_with fail
      refine (allowed_yes _).mono ?_; intro e w9 hE; obtain ⟨rfl, hw9⟩ := hE
      rw [hw9]
      clear hw9
      go_wp2
      go_ret
      exact ⟨by rw [hz, hq]; rfl, B.out⟩

set_option maxHeartbeats 8000000 in
set_option maxRecDepth 100000 in
theorem ack_5 (k x y r0 r1 r2 r3 r4 s0 s1 s2 s3 s4 a o : Int) (hk : k = 5) (hy : 0 ≤ y) (hr4 : 0 ≤ r4) (w : World) (hR : Ranks w) : Calls Tryd.prog 19 #[.agg #[.int .i64 k, .int .i64 x, .int .u64 y, .int .i64 r0, .int .i64 r1, .int .u64 r2, .int .i64 r3, .int .u64 r4, .int .i64 s0, .int .i64 s1, .int .u64 s2, .int .i64 s3, .int .u64 s4, .int .i64 a, .int .i64 o]] w fun e w' => e = .returned (.int .i64 (akE (zA 0 (0, 0) (0, 0, 0, 0, 0) (s0, s1, s2, s3, s4) (0, 0) && (rt x y && (refOk r1 r2 r3 r4 && true))))) ∧ Below w.heap.size w w' := by
  replace hk := hide hk
  have J := hide (IsB.new w #[.int .i64 k, .int .i64 x, .int .u64 y, .int .i64 r0, .int .i64 r1, .int .u64 r2, .int .i64 r3, .int .u64 r4, .int .i64 s0, .int .i64 s1, .int .u64 s2, .int .i64 s3, .int .u64 s4, .int .i64 a, .int .i64 o] 58)
  have B := hide (show Below w.heap.size w (w.alloc (.cells #[.int .i64 k, .int .i64 x, .int .u64 y, .int .i64 r0, .int .i64 r1, .int .u64 r2, .int .i64 r3, .int .u64 r4, .int .i64 s0, .int .i64 s1, .int .u64 s2, .int .i64 s3, .int .u64 s4, .int .i64 a, .int .i64 o] 58)) from (Below.refl _ w).alloc (Nat.le_refl _) _)
  have HR := hide (hR.below B.out)
  clear hR
  go_enter Tryd.func19, Tryd.ntmps19
  go_wp2_with fail
  generalize w.alloc (.cells #[.int .i64 k, .int .i64 x, .int .u64 y, .int .i64 r0, .int .i64 r1, .int .u64 r2, .int .i64 r3, .int .u64 r4, .int .i64 s0, .int .i64 s1, .int .u64 s2, .int .i64 s3, .int .u64 s4, .int .i64 a, .int .i64 o] 58) = W1 at J B HR ⊢
  generalize hH : w.heap.size = H at J ⊢
  replace hH := hide hH
  refine (parts_5 k hk.out _).mono ?_; rintro e w2 ⟨rfl, hb⟩
  replace J := hide (J.out.below hb)
  replace HR := hide (HR.out.below hb)
  replace B := hide (B.out.trans (hb.mono B.out.size))
  clear hb
  have hb := (Below.refl w2.heap.size w2).alloc (Nat.le_refl _) (.cells #[.bool true, .bool true, .bool false, .bool true] 81)
  have Q := hide (IsB.new w2 #[.bool true, .bool true, .bool false, .bool true] 81)
  replace J := hide (J.out.below hb)
  replace HR := hide (HR.out.below hb)
  replace B := hide (B.out.trans (hb.mono B.out.size))
  clear hb
  have ld := hide (load_ask J.out rfl)
  go_wp2_with (first | (refine wpList_load_w rfl 58 (.tmp 1) rfl rfl ld.out ?_))
  generalize w2.alloc (.cells #[.bool true, .bool true, .bool false, .bool true] 81) = W3 at J Q B HR ⊢
  clear ld
  generalize hG : w2.heap.size = G at Q ⊢
  replace hG := hide hG
  refine (strange_5 k x y r0 r1 r2 r3 r4 s0 s1 s2 s3 s4 a o _).mono ?_; rintro e w4 ⟨rfl, hb⟩
  replace J := hide (J.out.below hb)
  replace Q := hide (Q.out.below hb)
  replace HR := hide (HR.out.below hb)
  replace B := hide (B.out.trans (hb.mono B.out.size))
  clear hb
  generalize hA0 : Value.agg #[.int .i64 k, .int .i64 x, .int .u64 y, .int .i64 r0, .int .i64 r1, .int .u64 r2, .int .i64 r3, .int .u64 r4, .int .i64 s0, .int .i64 s1, .int .u64 s2, .int .i64 s3, .int .u64 s4, .int .i64 a, .int .i64 o] = A0
  clear hA0
  have hgd : Hid (Tryd.prog.eqGuardType Tryd.prog.depth 58 = false) := by show Tryd.prog.eqGuardType Tryd.prog.depth 58 = false; kernel_rfl
  have he := eqaZ 0 0 0 0 0 0 0 0 s0 s1 s2 s3 s4 0 0 w4
  rcases hz : zA 0 (0, 0) (0, 0, 0, 0, 0) (s0, s1, s2, s3, s4) (0, 0) with _ | _
  · rw [hz] at he
    go_wp2_with (first | ((with_reducible refine wpList_bin_w .eql 58 (.tmp 15) (.tmp 16) 58 ?ho ?hw hgd.out ?hx ?hy he ?h); (case ho => rfl); (case hw => rfl); (case hx => rfl); (case hy => rfl)))
    refine (allowed_no _).mono ?_; intro e w9 hE; obtain ⟨rfl, hw9⟩ := hE
    rw [hw9]
    clear hw9
    go_wp2
    go_ret
    exact ⟨by rw [hz]; rfl, B.out⟩
  · rw [hz] at he
    have c0 : w4.cell? ⟨H, 0, none⟩ = some (.int .i64 k) := J.out.cell 0
    have c1 : w4.cell? ⟨H, 1, none⟩ = some (.int .i64 x) := J.out.cell 1
    have c2 : w4.cell? ⟨H, 2, none⟩ = some (.int .u64 y) := J.out.cell 2
    have c3 : w4.cell? ⟨H, 3, none⟩ = some (.int .i64 r0) := J.out.cell 3
    have c4 : w4.cell? ⟨H, 4, none⟩ = some (.int .i64 r1) := J.out.cell 4
    have c5 : w4.cell? ⟨H, 5, none⟩ = some (.int .u64 r2) := J.out.cell 5
    have c6 : w4.cell? ⟨H, 6, none⟩ = some (.int .i64 r3) := J.out.cell 6
    have c7 : w4.cell? ⟨H, 7, none⟩ = some (.int .u64 r4) := J.out.cell 7
    have c8 : w4.cell? ⟨H, 8, none⟩ = some (.int .i64 s0) := J.out.cell 8
    have c9 : w4.cell? ⟨H, 9, none⟩ = some (.int .i64 s1) := J.out.cell 9
    have c10 : w4.cell? ⟨H, 10, none⟩ = some (.int .u64 s2) := J.out.cell 10
    have c11 : w4.cell? ⟨H, 11, none⟩ = some (.int .i64 s3) := J.out.cell 11
    have c12 : w4.cell? ⟨H, 12, none⟩ = some (.int .u64 s4) := J.out.cell 12
    have c13 : w4.cell? ⟨H, 13, none⟩ = some (.int .i64 a) := J.out.cell 13
    have c14 : w4.cell? ⟨H, 14, none⟩ = some (.int .i64 o) := J.out.cell 14
    have d0 : w4.cell? ⟨G, 0, none⟩ = some (.bool true) := Q.out.cell 0
    have d1 : w4.cell? ⟨G, 1, none⟩ = some (.bool true) := Q.out.cell 1
    have d2 : w4.cell? ⟨G, 2, none⟩ = some (.bool false) := Q.out.cell 2
    have d3 : w4.cell? ⟨G, 3, none⟩ = some (.bool true) := Q.out.cell 3
    go_wp2_with (first | ((with_reducible refine wpList_bin_w .eql 58 (.tmp 15) (.tmp 16) 58 ?ho ?hw hgd.out ?hx ?hy he ?h); (case ho => rfl); (case hw => rfl); (case hx => rfl); (case hy => rfl)))
    clear c0 c1 c2 c3 c4 c5 c6 c7 c8 c9 c10 c11 c12 c13 c14 d0 d1 d2 d3
    clear he
    refine (vright_any x y hy _).mono ?_; rintro e w5 ⟨rfl, hb⟩
    replace J := hide (J.out.below hb)
    replace Q := hide (Q.out.below hb)
    replace HR := hide (HR.out.below hb)
    replace B := hide (B.out.trans (hb.mono B.out.size))
    clear hb
    rcases hq : rt x y with _ | _
    · rw [reS_no hq]
      have c0 : w5.cell? ⟨H, 0, none⟩ = some (.int .i64 k) := J.out.cell 0
      have c1 : w5.cell? ⟨H, 1, none⟩ = some (.int .i64 x) := J.out.cell 1
      have c2 : w5.cell? ⟨H, 2, none⟩ = some (.int .u64 y) := J.out.cell 2
      have c3 : w5.cell? ⟨H, 3, none⟩ = some (.int .i64 r0) := J.out.cell 3
      have c4 : w5.cell? ⟨H, 4, none⟩ = some (.int .i64 r1) := J.out.cell 4
      have c5 : w5.cell? ⟨H, 5, none⟩ = some (.int .u64 r2) := J.out.cell 5
      have c6 : w5.cell? ⟨H, 6, none⟩ = some (.int .i64 r3) := J.out.cell 6
      have c7 : w5.cell? ⟨H, 7, none⟩ = some (.int .u64 r4) := J.out.cell 7
      have c8 : w5.cell? ⟨H, 8, none⟩ = some (.int .i64 s0) := J.out.cell 8
      have c9 : w5.cell? ⟨H, 9, none⟩ = some (.int .i64 s1) := J.out.cell 9
      have c10 : w5.cell? ⟨H, 10, none⟩ = some (.int .u64 s2) := J.out.cell 10
      have c11 : w5.cell? ⟨H, 11, none⟩ = some (.int .i64 s3) := J.out.cell 11
      have c12 : w5.cell? ⟨H, 12, none⟩ = some (.int .u64 s4) := J.out.cell 12
      have c13 : w5.cell? ⟨H, 13, none⟩ = some (.int .i64 a) := J.out.cell 13
      have c14 : w5.cell? ⟨H, 14, none⟩ = some (.int .i64 o) := J.out.cell 14
      have d0 : w5.cell? ⟨G, 0, none⟩ = some (.bool true) := Q.out.cell 0
      have d1 : w5.cell? ⟨G, 1, none⟩ = some (.bool true) := Q.out.cell 1
      have d2 : w5.cell? ⟨G, 2, none⟩ = some (.bool false) := Q.out.cell 2
      have d3 : w5.cell? ⟨G, 3, none⟩ = some (.bool true) := Q.out.cell 3
      go_wp2_with fail
      refine (allowed_no _).mono ?_; intro e w9 hE; obtain ⟨rfl, hw9⟩ := hE
      rw [hw9]
      clear hw9
      go_wp2
      go_ret
      exact ⟨by rw [hz, hq]; rfl, B.out⟩
    · rw [reS_yes hq]
      have c0 : w5.cell? ⟨H, 0, none⟩ = some (.int .i64 k) := J.out.cell 0
      have c1 : w5.cell? ⟨H, 1, none⟩ = some (.int .i64 x) := J.out.cell 1
      have c2 : w5.cell? ⟨H, 2, none⟩ = some (.int .u64 y) := J.out.cell 2
      have c3 : w5.cell? ⟨H, 3, none⟩ = some (.int .i64 r0) := J.out.cell 3
      have c4 : w5.cell? ⟨H, 4, none⟩ = some (.int .i64 r1) := J.out.cell 4
      have c5 : w5.cell? ⟨H, 5, none⟩ = some (.int .u64 r2) := J.out.cell 5
      have c6 : w5.cell? ⟨H, 6, none⟩ = some (.int .i64 r3) := J.out.cell 6
      have c7 : w5.cell? ⟨H, 7, none⟩ = some (.int .u64 r4) := J.out.cell 7
      have c8 : w5.cell? ⟨H, 8, none⟩ = some (.int .i64 s0) := J.out.cell 8
      have c9 : w5.cell? ⟨H, 9, none⟩ = some (.int .i64 s1) := J.out.cell 9
      have c10 : w5.cell? ⟨H, 10, none⟩ = some (.int .u64 s2) := J.out.cell 10
      have c11 : w5.cell? ⟨H, 11, none⟩ = some (.int .i64 s3) := J.out.cell 11
      have c12 : w5.cell? ⟨H, 12, none⟩ = some (.int .u64 s4) := J.out.cell 12
      have c13 : w5.cell? ⟨H, 13, none⟩ = some (.int .i64 a) := J.out.cell 13
      have c14 : w5.cell? ⟨H, 14, none⟩ = some (.int .i64 o) := J.out.cell 14
      have d0 : w5.cell? ⟨G, 0, none⟩ = some (.bool true) := Q.out.cell 0
      have d1 : w5.cell? ⟨G, 1, none⟩ = some (.bool true) := Q.out.cell 1
      have d2 : w5.cell? ⟨G, 2, none⟩ = some (.bool false) := Q.out.cell 2
      have d3 : w5.cell? ⟨G, 3, none⟩ = some (.bool true) := Q.out.cell 3
      go_wp2_with fail
      clear c0 c1 c2 c3 c4 c5 c6 c7 c8 c9 c10 c11 c12 c13 c14 d0 d1 d2 d3
      refine (refMayBe_any r0 r1 r2 r3 r4 hr4 _ HR.out).mono ?_; rintro e w6 ⟨rfl, hb⟩
      replace J := hide (J.out.below hb)
      replace Q := hide (Q.out.below hb)
      replace HR := hide (HR.out.below hb)
      replace B := hide (B.out.trans (hb.mono B.out.size))
      clear hb
      rcases hqr : refOk r1 r2 r3 r4 with _ | _
      · skip
        have c0 : w6.cell? ⟨H, 0, none⟩ = some (.int .i64 k) := J.out.cell 0
        have c1 : w6.cell? ⟨H, 1, none⟩ = some (.int .i64 x) := J.out.cell 1
        have c2 : w6.cell? ⟨H, 2, none⟩ = some (.int .u64 y) := J.out.cell 2
        have c3 : w6.cell? ⟨H, 3, none⟩ = some (.int .i64 r0) := J.out.cell 3
        have c4 : w6.cell? ⟨H, 4, none⟩ = some (.int .i64 r1) := J.out.cell 4
        have c5 : w6.cell? ⟨H, 5, none⟩ = some (.int .u64 r2) := J.out.cell 5
        have c6 : w6.cell? ⟨H, 6, none⟩ = some (.int .i64 r3) := J.out.cell 6
        have c7 : w6.cell? ⟨H, 7, none⟩ = some (.int .u64 r4) := J.out.cell 7
        have c8 : w6.cell? ⟨H, 8, none⟩ = some (.int .i64 s0) := J.out.cell 8
        have c9 : w6.cell? ⟨H, 9, none⟩ = some (.int .i64 s1) := J.out.cell 9
        have c10 : w6.cell? ⟨H, 10, none⟩ = some (.int .u64 s2) := J.out.cell 10
        have c11 : w6.cell? ⟨H, 11, none⟩ = some (.int .i64 s3) := J.out.cell 11
        have c12 : w6.cell? ⟨H, 12, none⟩ = some (.int .u64 s4) := J.out.cell 12
        have c13 : w6.cell? ⟨H, 13, none⟩ = some (.int .i64 a) := J.out.cell 13
        have c14 : w6.cell? ⟨H, 14, none⟩ = some (.int .i64 o) := J.out.cell 14
        have d0 : w6.cell? ⟨G, 0, none⟩ = some (.bool true) := Q.out.cell 0
        have d1 : w6.cell? ⟨G, 1, none⟩ = some (.bool true) := Q.out.cell 1
        have d2 : w6.cell? ⟨G, 2, none⟩ = some (.bool false) := Q.out.cell 2
        have d3 : w6.cell? ⟨G, 3, none⟩ = some (.bool true) := Q.out.cell 3
        go_wp2_with fail
        refine (allowed_no _).mono ?_; intro e w9 hE; obtain ⟨rfl, hw9⟩ := hE
        rw [hw9]
        clear hw9
        go_wp2
        go_ret
        exact ⟨by rw [hz, hq, hqr]; rfl, B.out⟩
      · skip
        have c0 : w6.cell? ⟨H, 0, none⟩ = some (.int .i64 k) := J.out.cell 0
        have c1 : w6.cell? ⟨H, 1, none⟩ = some (.int .i64 x) := J.out.cell 1
        have c2 : w6.cell? ⟨H, 2, none⟩ = some (.int .u64 y) := J.out.cell 2
        have c3 : w6.cell? ⟨H, 3, none⟩ = some (.int .i64 r0) := J.out.cell 3
        have c4 : w6.cell? ⟨H, 4, none⟩ = some (.int .i64 r1) := J.out.cell 4
        have c5 : w6.cell? ⟨H, 5, none⟩ = some (.int .u64 r2) := J.out.cell 5
        have c6 : w6.cell? ⟨H, 6, none⟩ = some (.int .i64 r3) := J.out.cell 6
        have c7 : w6.cell? ⟨H, 7, none⟩ = some (.int .u64 r4) := J.out.cell 7
        have c8 : w6.cell? ⟨H, 8, none⟩ = some (.int .i64 s0) := J.out.cell 8
        have c9 : w6.cell? ⟨H, 9, none⟩ = some (.int .i64 s1) := J.out.cell 9
        have c10 : w6.cell? ⟨H, 10, none⟩ = some (.int .u64 s2) := J.out.cell 10
        have c11 : w6.cell? ⟨H, 11, none⟩ = some (.int .i64 s3) := J.out.cell 11
        have c12 : w6.cell? ⟨H, 12, none⟩ = some (.int .u64 s4) := J.out.cell 12
        have c13 : w6.cell? ⟨H, 13, none⟩ = some (.int .i64 a) := J.out.cell 13
        have c14 : w6.cell? ⟨H, 14, none⟩ = some (.int .i64 o) := J.out.cell 14
        have d0 : w6.cell? ⟨G, 0, none⟩ = some (.bool true) := Q.out.cell 0
        have d1 : w6.cell? ⟨G, 1, none⟩ = some (.bool true) := Q.out.cell 1
        have d2 : w6.cell? ⟨G, 2, none⟩ = some (.bool false) := Q.out.cell 2
        have d3 : w6.cell? ⟨G, 3, none⟩ = some (.bool true) := Q.out.cell 3
        go_wp2_with fail
        refine (allowed_yes _).mono ?_; intro e w9 hE; obtain ⟨rfl, hw9⟩ := hE
        rw [hw9]
        clear hw9
        go_wp2
        go_ret
        exact ⟨by rw [hz, hq, hqr]; rfl, B.out⟩

set_option maxHeartbeats 8000000 in
set_option maxRecDepth 100000 in
theorem ack_6 (k x y r0 r1 r2 r3 r4 s0 s1 s2 s3 s4 a o : Int) (hk : k = 6) (hy : 0 ≤ y) (hr4 : 0 ≤ r4) (w : World) (hR : Ranks w) : Calls Tryd.prog 19 #[.agg #[.int .i64 k, .int .i64 x, .int .u64 y, .int .i64 r0, .int .i64 r1, .int .u64 r2, .int .i64 r3, .int .u64 r4, .int .i64 s0, .int .i64 s1, .int .u64 s2, .int .i64 s3, .int .u64 s4, .int .i64 a, .int .i64 o]] w fun e w' => e = .returned (.int .i64 (akE (zA 0 (0, 0) (0, 0, 0, 0, 0) (s0, s1, s2, s3, s4) (a, o) && (rt x y && (refOk r1 r2 r3 r4 && true))))) ∧ Below w.heap.size w w' := by
  replace hk := hide hk
  have J := hide (IsB.new w #[.int .i64 k, .int .i64 x, .int .u64 y, .int .i64 r0, .int .i64 r1, .int .u64 r2, .int .i64 r3, .int .u64 r4, .int .i64 s0, .int .i64 s1, .int .u64 s2, .int .i64 s3, .int .u64 s4, .int .i64 a, .int .i64 o] 58)
  have B := hide (show Below w.heap.size w (w.alloc (.cells #[.int .i64 k, .int .i64 x, .int .u64 y, .int .i64 r0, .int .i64 r1, .int .u64 r2, .int .i64 r3, .int .u64 r4, .int .i64 s0, .int .i64 s1, .int .u64 s2, .int .i64 s3, .int .u64 s4, .int .i64 a, .int .i64 o] 58)) from (Below.refl _ w).alloc (Nat.le_refl _) _)
  have HR := hide (hR.below B.out)
  clear hR
  go_enter Tryd.func19, Tryd.ntmps19
  go_wp2_with fail
  generalize w.alloc (.cells #[.int .i64 k, .int .i64 x, .int .u64 y, .int .i64 r0, .int .i64 r1, .int .u64 r2, .int .i64 r3, .int .u64 r4, .int .i64 s0, .int .i64 s1, .int .u64 s2, .int .i64 s3, .int .u64 s4, .int .i64 a, .int .i64 o] 58) = W1 at J B HR ⊢
  generalize hH : w.heap.size = H at J ⊢
  replace hH := hide hH
  refine (parts_6 k hk.out _).mono ?_; rintro e w2 ⟨rfl, hb⟩
  replace J := hide (J.out.below hb)
  replace HR := hide (HR.out.below hb)
  replace B := hide (B.out.trans (hb.mono B.out.size))
  clear hb
  have hb := (Below.refl w2.heap.size w2).alloc (Nat.le_refl _) (.cells #[.bool true, .bool true, .bool false, .bool false] 81)
  have Q := hide (IsB.new w2 #[.bool true, .bool true, .bool false, .bool false] 81)
  replace J := hide (J.out.below hb)
  replace HR := hide (HR.out.below hb)
  replace B := hide (B.out.trans (hb.mono B.out.size))
  clear hb
  have ld := hide (load_ask J.out rfl)
  go_wp2_with (first | (refine wpList_load_w rfl 58 (.tmp 1) rfl rfl ld.out ?_))
  generalize w2.alloc (.cells #[.bool true, .bool true, .bool false, .bool false] 81) = W3 at J Q B HR ⊢
  clear ld
  generalize hG : w2.heap.size = G at Q ⊢
  replace hG := hide hG
  refine (strange_6 k x y r0 r1 r2 r3 r4 s0 s1 s2 s3 s4 a o _).mono ?_; rintro e w4 ⟨rfl, hb⟩
  replace J := hide (J.out.below hb)
  replace Q := hide (Q.out.below hb)
  replace HR := hide (HR.out.below hb)
  replace B := hide (B.out.trans (hb.mono B.out.size))
  clear hb
  generalize hA0 : Value.agg #[.int .i64 k, .int .i64 x, .int .u64 y, .int .i64 r0, .int .i64 r1, .int .u64 r2, .int .i64 r3, .int .u64 r4, .int .i64 s0, .int .i64 s1, .int .u64 s2, .int .i64 s3, .int .u64 s4, .int .i64 a, .int .i64 o] = A0
  clear hA0
  have hgd : Hid (Tryd.prog.eqGuardType Tryd.prog.depth 58 = false) := by show Tryd.prog.eqGuardType Tryd.prog.depth 58 = false; kernel_rfl
  have he := eqaZ 0 0 0 0 0 0 0 0 s0 s1 s2 s3 s4 a o w4
  rcases hz : zA 0 (0, 0) (0, 0, 0, 0, 0) (s0, s1, s2, s3, s4) (a, o) with _ | _
  · rw [hz] at he
    go_wp2_with (first | ((with_reducible refine wpList_bin_w .eql 58 (.tmp 15) (.tmp 16) 58 ?ho ?hw hgd.out ?hx ?hy he ?h); (case ho => rfl); (case hw => rfl); (case hx => rfl); (case hy => rfl)))
    refine (allowed_no _).mono ?_; intro e w9 hE; obtain ⟨rfl, hw9⟩ := hE
    rw [hw9]
    clear hw9
    go_wp2
    go_ret
    exact ⟨by rw [hz]; rfl, B.out⟩
  · rw [hz] at he
    have c0 : w4.cell? ⟨H, 0, none⟩ = some (.int .i64 k) := J.out.cell 0
    have c1 : w4.cell? ⟨H, 1, none⟩ = some (.int .i64 x) := J.out.cell 1
    have c2 : w4.cell? ⟨H, 2, none⟩ = some (.int .u64 y) := J.out.cell 2
    have c3 : w4.cell? ⟨H, 3, none⟩ = some (.int .i64 r0) := J.out.cell 3
    have c4 : w4.cell? ⟨H, 4, none⟩ = some (.int .i64 r1) := J.out.cell 4
    have c5 : w4.cell? ⟨H, 5, none⟩ = some (.int .u64 r2) := J.out.cell 5
    have c6 : w4.cell? ⟨H, 6, none⟩ = some (.int .i64 r3) := J.out.cell 6
    have c7 : w4.cell? ⟨H, 7, none⟩ = some (.int .u64 r4) := J.out.cell 7
    have c8 : w4.cell? ⟨H, 8, none⟩ = some (.int .i64 s0) := J.out.cell 8
    have c9 : w4.cell? ⟨H, 9, none⟩ = some (.int .i64 s1) := J.out.cell 9
    have c10 : w4.cell? ⟨H, 10, none⟩ = some (.int .u64 s2) := J.out.cell 10
    have c11 : w4.cell? ⟨H, 11, none⟩ = some (.int .i64 s3) := J.out.cell 11
    have c12 : w4.cell? ⟨H, 12, none⟩ = some (.int .u64 s4) := J.out.cell 12
    have c13 : w4.cell? ⟨H, 13, none⟩ = some (.int .i64 a) := J.out.cell 13
    have c14 : w4.cell? ⟨H, 14, none⟩ = some (.int .i64 o) := J.out.cell 14
    have d0 : w4.cell? ⟨G, 0, none⟩ = some (.bool true) := Q.out.cell 0
    have d1 : w4.cell? ⟨G, 1, none⟩ = some (.bool true) := Q.out.cell 1
    have d2 : w4.cell? ⟨G, 2, none⟩ = some (.bool false) := Q.out.cell 2
    have d3 : w4.cell? ⟨G, 3, none⟩ = some (.bool false) := Q.out.cell 3
    go_wp2_with (first | ((with_reducible refine wpList_bin_w .eql 58 (.tmp 15) (.tmp 16) 58 ?ho ?hw hgd.out ?hx ?hy he ?h); (case ho => rfl); (case hw => rfl); (case hx => rfl); (case hy => rfl)))
    clear c0 c1 c2 c3 c4 c5 c6 c7 c8 c9 c10 c11 c12 c13 c14 d0 d1 d2 d3
    clear he
    refine (vright_any x y hy _).mono ?_; rintro e w5 ⟨rfl, hb⟩
    replace J := hide (J.out.below hb)
    replace Q := hide (Q.out.below hb)
    replace HR := hide (HR.out.below hb)
    replace B := hide (B.out.trans (hb.mono B.out.size))
    clear hb
    rcases hq : rt x y with _ | _
    · rw [reS_no hq]
      have c0 : w5.cell? ⟨H, 0, none⟩ = some (.int .i64 k) := J.out.cell 0
      have c1 : w5.cell? ⟨H, 1, none⟩ = some (.int .i64 x) := J.out.cell 1
      have c2 : w5.cell? ⟨H, 2, none⟩ = some (.int .u64 y) := J.out.cell 2
      have c3 : w5.cell? ⟨H, 3, none⟩ = some (.int .i64 r0) := J.out.cell 3
      have c4 : w5.cell? ⟨H, 4, none⟩ = some (.int .i64 r1) := J.out.cell 4
      have c5 : w5.cell? ⟨H, 5, none⟩ = some (.int .u64 r2) := J.out.cell 5
      have c6 : w5.cell? ⟨H, 6, none⟩ = some (.int .i64 r3) := J.out.cell 6
      have c7 : w5.cell? ⟨H, 7, none⟩ = some (.int .u64 r4) := J.out.cell 7
      have c8 : w5.cell? ⟨H, 8, none⟩ = some (.int .i64 s0) := J.out.cell 8
      have c9 : w5.cell? ⟨H, 9, none⟩ = some (.int .i64 s1) := J.out.cell 9
      have c10 : w5.cell? ⟨H, 10, none⟩ = some (.int .u64 s2) := J.out.cell 10
      have c11 : w5.cell? ⟨H, 11, none⟩ = some (.int .i64 s3) := J.out.cell 11
      have c12 : w5.cell? ⟨H, 12, none⟩ = some (.int .u64 s4) := J.out.cell 12
      have c13 : w5.cell? ⟨H, 13, none⟩ = some (.int .i64 a) := J.out.cell 13
      have c14 : w5.cell? ⟨H, 14, none⟩ = some (.int .i64 o) := J.out.cell 14
      have d0 : w5.cell? ⟨G, 0, none⟩ = some (.bool true) := Q.out.cell 0
      have d1 : w5.cell? ⟨G, 1, none⟩ = some (.bool true) := Q.out.cell 1
      have d2 : w5.cell? ⟨G, 2, none⟩ = some (.bool false) := Q.out.cell 2
      have d3 : w5.cell? ⟨G, 3, none⟩ = some (.bool false) := Q.out.cell 3
      go_wp2_with fail
      refine (allowed_no _).mono ?_; intro e w9 hE; obtain ⟨rfl, hw9⟩ := hE
      rw [hw9]
      clear hw9
      go_wp2
      go_ret
      exact ⟨by rw [hz, hq]; rfl, B.out⟩
    · rw [reS_yes hq]
      have c0 : w5.cell? ⟨H, 0, none⟩ = some (.int .i64 k) := J.out.cell 0
      have c1 : w5.cell? ⟨H, 1, none⟩ = some (.int .i64 x) := J.out.cell 1
      have c2 : w5.cell? ⟨H, 2, none⟩ = some (.int .u64 y) := J.out.cell 2
      have c3 : w5.cell? ⟨H, 3, none⟩ = some (.int .i64 r0) := J.out.cell 3
      have c4 : w5.cell? ⟨H, 4, none⟩ = some (.int .i64 r1) := J.out.cell 4
      have c5 : w5.cell? ⟨H, 5, none⟩ = some (.int .u64 r2) := J.out.cell 5
      have c6 : w5.cell? ⟨H, 6, none⟩ = some (.int .i64 r3) := J.out.cell 6
      have c7 : w5.cell? ⟨H, 7, none⟩ = some (.int .u64 r4) := J.out.cell 7
      have c8 : w5.cell? ⟨H, 8, none⟩ = some (.int .i64 s0) := J.out.cell 8
      have c9 : w5.cell? ⟨H, 9, none⟩ = some (.int .i64 s1) := J.out.cell 9
      have c10 : w5.cell? ⟨H, 10, none⟩ = some (.int .u64 s2) := J.out.cell 10
      have c11 : w5.cell? ⟨H, 11, none⟩ = some (.int .i64 s3) := J.out.cell 11
      have c12 : w5.cell? ⟨H, 12, none⟩ = some (.int .u64 s4) := J.out.cell 12
      have c13 : w5.cell? ⟨H, 13, none⟩ = some (.int .i64 a) := J.out.cell 13
      have c14 : w5.cell? ⟨H, 14, none⟩ = some (.int .i64 o) := J.out.cell 14
      have d0 : w5.cell? ⟨G, 0, none⟩ = some (.bool true) := Q.out.cell 0
      have d1 : w5.cell? ⟨G, 1, none⟩ = some (.bool true) := Q.out.cell 1
      have d2 : w5.cell? ⟨G, 2, none⟩ = some (.bool false) := Q.out.cell 2
      have d3 : w5.cell? ⟨G, 3, none⟩ = some (.bool false) := Q.out.cell 3
      go_wp2_with fail
      clear c0 c1 c2 c3 c4 c5 c6 c7 c8 c9 c10 c11 c12 c13 c14 d0 d1 d2 d3
      refine (refMayBe_any r0 r1 r2 r3 r4 hr4 _ HR.out).mono ?_; rintro e w6 ⟨rfl, hb⟩
      replace J := hide (J.out.below hb)
      replace Q := hide (Q.out.below hb)
      replace HR := hide (HR.out.below hb)
      replace B := hide (B.out.trans (hb.mono B.out.size))
      clear hb
      rcases hqr : refOk r1 r2 r3 r4 with _ | _
      · skip
        have c0 : w6.cell? ⟨H, 0, none⟩ = some (.int .i64 k) := J.out.cell 0
        have c1 : w6.cell? ⟨H, 1, none⟩ = some (.int .i64 x) := J.out.cell 1
        have c2 : w6.cell? ⟨H, 2, none⟩ = some (.int .u64 y) := J.out.cell 2
        have c3 : w6.cell? ⟨H, 3, none⟩ = some (.int .i64 r0) := J.out.cell 3
        have c4 : w6.cell? ⟨H, 4, none⟩ = some (.int .i64 r1) := J.out.cell 4
        have c5 : w6.cell? ⟨H, 5, none⟩ = some (.int .u64 r2) := J.out.cell 5
        have c6 : w6.cell? ⟨H, 6, none⟩ = some (.int .i64 r3) := J.out.cell 6
        have c7 : w6.cell? ⟨H, 7, none⟩ = some (.int .u64 r4) := J.out.cell 7
        have c8 : w6.cell? ⟨H, 8, none⟩ = some (.int .i64 s0) := J.out.cell 8
        have c9 : w6.cell? ⟨H, 9, none⟩ = some (.int .i64 s1) := J.out.cell 9
        have c10 : w6.cell? ⟨H, 10, none⟩ = some (.int .u64 s2) := J.out.cell 10
        have c11 : w6.cell? ⟨H, 11, none⟩ = some (.int .i64 s3) := J.out.cell 11
        have c12 : w6.cell? ⟨H, 12, none⟩ = some (.int .u64 s4) := J.out.cell 12
        have c13 : w6.cell? ⟨H, 13, none⟩ = some (.int .i64 a) := J.out.cell 13
        have c14 : w6.cell? ⟨H, 14, none⟩ = some (.int .i64 o) := J.out.cell 14
        have d0 : w6.cell? ⟨G, 0, none⟩ = some (.bool true) := Q.out.cell 0
        have d1 : w6.cell? ⟨G, 1, none⟩ = some (.bool true) := Q.out.cell 1
        have d2 : w6.cell? ⟨G, 2, none⟩ = some (.bool false) := Q.out.cell 2
        have d3 : w6.cell? ⟨G, 3, none⟩ = some (.bool false) := Q.out.cell 3
        go_wp2_with fail
        refine (allowed_no _).mono ?_; intro e w9 hE; obtain ⟨rfl, hw9⟩ := hE
        rw [hw9]
        clear hw9
        go_wp2
        go_ret
        exact ⟨by rw [hz, hq, hqr]; rfl, B.out⟩
      · skip
        have c0 : w6.cell? ⟨H, 0, none⟩ = some (.int .i64 k) := J.out.cell 0
        have c1 : w6.cell? ⟨H, 1, none⟩ = some (.int .i64 x) := J.out.cell 1
        have c2 : w6.cell? ⟨H, 2, none⟩ = some (.int .u64 y) := J.out.cell 2
        have c3 : w6.cell? ⟨H, 3, none⟩ = some (.int .i64 r0) := J.out.cell 3
        have c4 : w6.cell? ⟨H, 4, none⟩ = some (.int .i64 r1) := J.out.cell 4
        have c5 : w6.cell? ⟨H, 5, none⟩ = some (.int .u64 r2) := J.out.cell 5
        have c6 : w6.cell? ⟨H, 6, none⟩ = some (.int .i64 r3) := J.out.cell 6
        have c7 : w6.cell? ⟨H, 7, none⟩ = some (.int .u64 r4) := J.out.cell 7
        have c8 : w6.cell? ⟨H, 8, none⟩ = some (.int .i64 s0) := J.out.cell 8
        have c9 : w6.cell? ⟨H, 9, none⟩ = some (.int .i64 s1) := J.out.cell 9
        have c10 : w6.cell? ⟨H, 10, none⟩ = some (.int .u64 s2) := J.out.cell 10
        have c11 : w6.cell? ⟨H, 11, none⟩ = some (.int .i64 s3) := J.out.cell 11
        have c12 : w6.cell? ⟨H, 12, none⟩ = some (.int .u64 s4) := J.out.cell 12
        have c13 : w6.cell? ⟨H, 13, none⟩ = some (.int .i64 a) := J.out.cell 13
        have c14 : w6.cell? ⟨H, 14, none⟩ = some (.int .i64 o) := J.out.cell 14
        have d0 : w6.cell? ⟨G, 0, none⟩ = some (.bool true) := Q.out.cell 0
        have d1 : w6.cell? ⟨G, 1, none⟩ = some (.bool true) := Q.out.cell 1
        have d2 : w6.cell? ⟨G, 2, none⟩ = some (.bool false) := Q.out.cell 2
        have d3 : w6.cell? ⟨G, 3, none⟩ = some (.bool false) := Q.out.cell 3
        go_wp2_with fail
        refine (allowed_yes _).mono ?_; intro e w9 hE; obtain ⟨rfl, hw9⟩ := hE
        rw [hw9]
        clear hw9
        go_wp2
        go_ret
        exact ⟨by rw [hz, hq, hqr]; rfl, B.out⟩

set_option maxHeartbeats 8000000 in
set_option maxRecDepth 100000 in
theorem ack_7 (k x y r0 r1 r2 r3 r4 s0 s1 s2 s3 s4 a o : Int) (hk : k = 7) (hy : 0 ≤ y) (hr4 : 0 ≤ r4) (hs4 : 0 ≤ s4) (w : World) (hR : Ranks w) : Calls Tryd.prog 19 #[.agg #[.int .i64 k, .int .i64 x, .int .u64 y, .int .i64 r0, .int .i64 r1, .int .u64 r2, .int .i64 r3, .int .u64 r4, .int .i64 s0, .int .i64 s1, .int .u64 s2, .int .i64 s3, .int .u64 s4, .int .i64 a, .int .i64 o]] w fun e w' => e = .returned (.int .i64 (akE (zA 0 (0, 0) (0, 0, 0, 0, 0) (0, 0, 0, 0, 0) (0, 0) && (rt x y && (refOk r1 r2 r3 r4 && refOk s1 s2 s3 s4))))) ∧ Below w.heap.size w w' := by
  replace hk := hide hk
  have J := hide (IsB.new w #[.int .i64 k, .int .i64 x, .int .u64 y, .int .i64 r0, .int .i64 r1, .int .u64 r2, .int .i64 r3, .int .u64 r4, .int .i64 s0, .int .i64 s1, .int .u64 s2, .int .i64 s3, .int .u64 s4, .int .i64 a, .int .i64 o] 58)
  have B := hide (show Below w.heap.size w (w.alloc (.cells #[.int .i64 k, .int .i64 x, .int .u64 y, .int .i64 r0, .int .i64 r1, .int .u64 r2, .int .i64 r3, .int .u64 r4, .int .i64 s0, .int .i64 s1, .int .u64 s2, .int .i64 s3, .int .u64 s4, .int .i64 a, .int .i64 o] 58)) from (Below.refl _ w).alloc (Nat.le_refl _) _)
  have HR := hide (hR.below B.out)
  clear hR
  go_enter Tryd.func19, Tryd.ntmps19
  go_wp2_with fail
  generalize w.alloc (.cells #[.int .i64 k, .int .i64 x, .int .u64 y, .int .i64 r0, .int .i64 r1, .int .u64 r2, .int .i64 r3, .int .u64 r4, .int .i64 s0, .int .i64 s1, .int .u64 s2, .int .i64 s3, .int .u64 s4, .int .i64 a, .int .i64 o] 58) = W1 at J B HR ⊢
  generalize hH : w.heap.size = H at J ⊢
  replace hH := hide hH
  refine (parts_7 k hk.out _).mono ?_; rintro e w2 ⟨rfl, hb⟩
  replace J := hide (J.out.below hb)
  replace HR := hide (HR.out.below hb)
  replace B := hide (B.out.trans (hb.mono B.out.size))
  clear hb
  have hb := (Below.refl w2.heap.size w2).alloc (Nat.le_refl _) (.cells #[.bool true, .bool true, .bool true, .bool true] 81)
  have Q := hide (IsB.new w2 #[.bool true, .bool true, .bool true, .bool true] 81)
  replace J := hide (J.out.below hb)
  replace HR := hide (HR.out.below hb)
  replace B := hide (B.out.trans (hb.mono B.out.size))
  clear hb
  have ld := hide (load_ask J.out rfl)
  go_wp2_with (first | (refine wpList_load_w rfl 58 (.tmp 1) rfl rfl ld.out ?_))
  generalize w2.alloc (.cells #[.bool true, .bool true, .bool true, .bool true] 81) = W3 at J Q B HR ⊢
  clear ld
  generalize hG : w2.heap.size = G at Q ⊢
  replace hG := hide hG
  refine (strange_7 k x y r0 r1 r2 r3 r4 s0 s1 s2 s3 s4 a o _).mono ?_; rintro e w4 ⟨rfl, hb⟩
  replace J := hide (J.out.below hb)
  replace Q := hide (Q.out.below hb)
  replace HR := hide (HR.out.below hb)
  replace B := hide (B.out.trans (hb.mono B.out.size))
  clear hb
  generalize hA0 : Value.agg #[.int .i64 k, .int .i64 x, .int .u64 y, .int .i64 r0, .int .i64 r1, .int .u64 r2, .int .i64 r3, .int .u64 r4, .int .i64 s0, .int .i64 s1, .int .u64 s2, .int .i64 s3, .int .u64 s4, .int .i64 a, .int .i64 o] = A0
  clear hA0
  have hgd : Hid (Tryd.prog.eqGuardType Tryd.prog.depth 58 = false) := by show Tryd.prog.eqGuardType Tryd.prog.depth 58 = false; kernel_rfl
  have he := eqaZ 0 0 0 0 0 0 0 0 0 0 0 0 0 0 0 w4
  rcases hz : zA 0 (0, 0) (0, 0, 0, 0, 0) (0, 0, 0, 0, 0) (0, 0) with _ | _
  · rw [hz] at he
    go_wp2_with (first | ((with_reducible refine wpList_bin_w .eql 58 (.tmp 15) (.tmp 16) 58 ?ho ?hw hgd.out ?hx ?hy he ?h); (case ho => rfl); (case hw => rfl); (case hx => rfl); (case hy => rfl)))
    refine (allowed_no _).mono ?_; intro e w9 hE; obtain ⟨rfl, hw9⟩ := hE
    rw [hw9]
    clear hw9
    go_wp2
    go_ret
    exact ⟨by rw [hz]; rfl, B.out⟩
  · rw [hz] at he
    have c0 : w4.cell? ⟨H, 0, none⟩ = some (.int .i64 k) := J.out.cell 0
    have c1 : w4.cell? ⟨H, 1, none⟩ = some (.int .i64 x) := J.out.cell 1
    have c2 : w4.cell? ⟨H, 2, none⟩ = some (.int .u64 y) := J.out.cell 2
    have c3 : w4.cell? ⟨H, 3, none⟩ = some (.int .i64 r0) := J.out.cell 3
    have c4 : w4.cell? ⟨H, 4, none⟩ = some (.int .i64 r1) := J.out.cell 4
    have c5 : w4.cell? ⟨H, 5, none⟩ = some (.int .u64 r2) := J.out.cell 5
    have c6 : w4.cell? ⟨H, 6, none⟩ = some (.int .i64 r3) := J.out.cell 6
    have c7 : w4.cell? ⟨H, 7, none⟩ = some (.int .u64 r4) := J.out.cell 7
    have c8 : w4.cell? ⟨H, 8, none⟩ = some (.int .i64 s0) := J.out.cell 8
    have c9 : w4.cell? ⟨H, 9, none⟩ = some (.int .i64 s1) := J.out.cell 9
    have c10 : w4.cell? ⟨H, 10, none⟩ = some (.int .u64 s2) := J.out.cell 10
    have c11 : w4.cell? ⟨H, 11, none⟩ = some (.int .i64 s3) := J.out.cell 11
    have c12 : w4.cell? ⟨H, 12, none⟩ = some (.int .u64 s4) := J.out.cell 12
    have c13 : w4.cell? ⟨H, 13, none⟩ = some (.int .i64 a) := J.out.cell 13
    have c14 : w4.cell? ⟨H, 14, none⟩ = some (.int .i64 o) := J.out.cell 14
    have d0 : w4.cell? ⟨G, 0, none⟩ = some (.bool true) := Q.out.cell 0
    have d1 : w4.cell? ⟨G, 1, none⟩ = some (.bool true) := Q.out.cell 1
    have d2 : w4.cell? ⟨G, 2, none⟩ = some (.bool true) := Q.out.cell 2
    have d3 : w4.cell? ⟨G, 3, none⟩ = some (.bool true) := Q.out.cell 3
    go_wp2_with (first | ((with_reducible refine wpList_bin_w .eql 58 (.tmp 15) (.tmp 16) 58 ?ho ?hw hgd.out ?hx ?hy he ?h); (case ho => rfl); (case hw => rfl); (case hx => rfl); (case hy => rfl)))
    clear c0 c1 c2 c3 c4 c5 c6 c7 c8 c9 c10 c11 c12 c13 c14 d0 d1 d2 d3
    clear he
    refine (vright_any x y hy _).mono ?_; rintro e w5 ⟨rfl, hb⟩
    replace J := hide (J.out.below hb)
    replace Q := hide (Q.out.below hb)
    replace HR := hide (HR.out.below hb)
    replace B := hide (B.out.trans (hb.mono B.out.size))
    clear hb
    rcases hq : rt x y with _ | _
    · rw [reS_no hq]
      have c0 : w5.cell? ⟨H, 0, none⟩ = some (.int .i64 k) := J.out.cell 0
      have c1 : w5.cell? ⟨H, 1, none⟩ = some (.int .i64 x) := J.out.cell 1
      have c2 : w5.cell? ⟨H, 2, none⟩ = some (.int .u64 y) := J.out.cell 2
      have c3 : w5.cell? ⟨H, 3, none⟩ = some (.int .i64 r0) := J.out.cell 3
      have c4 : w5.cell? ⟨H, 4, none⟩ = some (.int .i64 r1) := J.out.cell 4
      have c5 : w5.cell? ⟨H, 5, none⟩ = some (.int .u64 r2) := J.out.cell 5
      have c6 : w5.cell? ⟨H, 6, none⟩ = some (.int .i64 r3) := J.out.cell 6
      have c7 : w5.cell? ⟨H, 7, none⟩ = some (.int .u64 r4) := J.out.cell 7
      have c8 : w5.cell? ⟨H, 8, none⟩ = some (.int .i64 s0) := J.out.cell 8
      have c9 : w5.cell? ⟨H, 9, none⟩ = some (.int .i64 s1) := J.out.cell 9
      have c10 : w5.cell? ⟨H, 10, none⟩ = some (.int .u64 s2) := J.out.cell 10
      have c11 : w5.cell? ⟨H, 11, none⟩ = some (.int .i64 s3) := J.out.cell 11
      have c12 : w5.cell? ⟨H, 12, none⟩ = some (.int .u64 s4) := J.out.cell 12
      have c13 : w5.cell? ⟨H, 13, none⟩ = some (.int .i64 a) := J.out.cell 13
      have c14 : w5.cell? ⟨H, 14, none⟩ = some (.int .i64 o) := J.out.cell 14
      have d0 : w5.cell? ⟨G, 0, none⟩ = some (.bool true) := Q.out.cell 0
      have d1 : w5.cell? ⟨G, 1, none⟩ = some (.bool true) := Q.out.cell 1
      have d2 : w5.cell? ⟨G, 2, none⟩ = some (.bool true) := Q.out.cell 2
      have d3 : w5.cell? ⟨G, 3, none⟩ = some (.bool true) := Q.out.cell 3
      go_wp2_with fail
      refine (allowed_no _).mono ?_; intro e w9 hE; obtain ⟨rfl, hw9⟩ := hE
      rw [hw9]
      clear hw9
      go_wp2
      go_ret
      exact ⟨by rw [hz, hq]; rfl, B.out⟩
    · rw [reS_yes hq]
      have c0 : w5.cell? ⟨H, 0, none⟩ = some (.int .i64 k) := J.out.cell 0
      have c1 : w5.cell? ⟨H, 1, none⟩ = some (.int .i64 x) := J.out.cell 1
      have c2 : w5.cell? ⟨H, 2, none⟩ = some (.int .u64 y) := J.out.cell 2
      have c3 : w5.cell? ⟨H, 3, none⟩ = some (.int .i64 r0) := J.out.cell 3
      have c4 : w5.cell? ⟨H, 4, none⟩ = some (.int .i64 r1) := J.out.cell 4
      have c5 : w5.cell? ⟨H, 5, none⟩ = some (.int .u64 r2) := J.out.cell 5
      have c6 : w5.cell? ⟨H, 6, none⟩ = some (.int .i64 r3) := J.out.cell 6
      have c7 : w5.cell? ⟨H, 7, none⟩ = some (.int .u64 r4) := J.out.cell 7
      have c8 : w5.cell? ⟨H, 8, none⟩ = some (.int .i64 s0) := J.out.cell 8
      have c9 : w5.cell? ⟨H, 9, none⟩ = some (.int .i64 s1) := J.out.cell 9
      have c10 : w5.cell? ⟨H, 10, none⟩ = some (.int .u64 s2) := J.out.cell 10
      have c11 : w5.cell? ⟨H, 11, none⟩ = some (.int .i64 s3) := J.out.cell 11
      have c12 : w5.cell? ⟨H, 12, none⟩ = some (.int .u64 s4) := J.out.cell 12
      have c13 : w5.cell? ⟨H, 13, none⟩ = some (.int .i64 a) := J.out.cell 13
      have c14 : w5.cell? ⟨H, 14, none⟩ = some (.int .i64 o) := J.out.cell 14
      have d0 : w5.cell? ⟨G, 0, none⟩ = some (.bool true) := Q.out.cell 0
      have d1 : w5.cell? ⟨G, 1, none⟩ = some (.bool true) := Q.out.cell 1
      have d2 : w5.cell? ⟨G, 2, none⟩ = some (.bool true) := Q.out.cell 2
      have d3 : w5.cell? ⟨G, 3, none⟩ = some (.bool true) := Q.out.cell 3
      go_wp2_with fail
      clear c0 c1 c2 c3 c4 c5 c6 c7 c8 c9 c10 c11 c12 c13 c14 d0 d1 d2 d3
      refine (refMayBe_any r0 r1 r2 r3 r4 hr4 _ HR.out).mono ?_; rintro e w6 ⟨rfl, hb⟩
      replace J := hide (J.out.below hb)
      replace Q := hide (Q.out.below hb)
      replace HR := hide (HR.out.below hb)
      replace B := hide (B.out.trans (hb.mono B.out.size))
      clear hb
      rcases hqr : refOk r1 r2 r3 r4 with _ | _
      · skip
        have c0 : w6.cell? ⟨H, 0, none⟩ = some (.int .i64 k) := J.out.cell 0
        have c1 : w6.cell? ⟨H, 1, none⟩ = some (.int .i64 x) := J.out.cell 1
        have c2 : w6.cell? ⟨H, 2, none⟩ = some (.int .u64 y) := J.out.cell 2
        have c3 : w6.cell? ⟨H, 3, none⟩ = some (.int .i64 r0) := J.out.cell 3
        have c4 : w6.cell? ⟨H, 4, none⟩ = some (.int .i64 r1) := J.out.cell 4
        have c5 : w6.cell? ⟨H, 5, none⟩ = some (.int .u64 r2) := J.out.cell 5
        have c6 : w6.cell? ⟨H, 6, none⟩ = some (.int .i64 r3) := J.out.cell 6
        have c7 : w6.cell? ⟨H, 7, none⟩ = some (.int .u64 r4) := J.out.cell 7
        have c8 : w6.cell? ⟨H, 8, none⟩ = some (.int .i64 s0) := J.out.cell 8
        have c9 : w6.cell? ⟨H, 9, none⟩ = some (.int .i64 s1) := J.out.cell 9
        have c10 : w6.cell? ⟨H, 10, none⟩ = some (.int .u64 s2) := J.out.cell 10
        have c11 : w6.cell? ⟨H, 11, none⟩ = some (.int .i64 s3) := J.out.cell 11
        have c12 : w6.cell? ⟨H, 12, none⟩ = some (.int .u64 s4) := J.out.cell 12
        have c13 : w6.cell? ⟨H, 13, none⟩ = some (.int .i64 a) := J.out.cell 13
        have c14 : w6.cell? ⟨H, 14, none⟩ = some (.int .i64 o) := J.out.cell 14
        have d0 : w6.cell? ⟨G, 0, none⟩ = some (.bool true) := Q.out.cell 0
        have d1 : w6.cell? ⟨G, 1, none⟩ = some (.bool true) := Q.out.cell 1
        have d2 : w6.cell? ⟨G, 2, none⟩ = some (.bool true) := Q.out.cell 2
        have d3 : w6.cell? ⟨G, 3, none⟩ = some (.bool true) := Q.out.cell 3
        go_wp2_with fail
        refine (allowed_no _).mono ?_; intro e w9 hE; obtain ⟨rfl, hw9⟩ := hE
        rw [hw9]
        clear hw9
        go_wp2
        go_ret
        exact ⟨by rw [hz, hq, hqr]; rfl, B.out⟩
      · skip
        have c0 : w6.cell? ⟨H, 0, none⟩ = some (.int .i64 k) := J.out.cell 0
        have c1 : w6.cell? ⟨H, 1, none⟩ = some (.int .i64 x) := J.out.cell 1
        have c2 : w6.cell? ⟨H, 2, none⟩ = some (.int .u64 y) := J.out.cell 2
        have c3 : w6.cell? ⟨H, 3, none⟩ = some (.int .i64 r0) := J.out.cell 3
        have c4 : w6.cell? ⟨H, 4, none⟩ = some (.int .i64 r1) := J.out.cell 4
        have c5 : w6.cell? ⟨H, 5, none⟩ = some (.int .u64 r2) := J.out.cell 5
        have c6 : w6.cell? ⟨H, 6, none⟩ = some (.int .i64 r3) := J.out.cell 6
        have c7 : w6.cell? ⟨H, 7, none⟩ = some (.int .u64 r4) := J.out.cell 7
        have c8 : w6.cell? ⟨H, 8, none⟩ = some (.int .i64 s0) := J.out.cell 8
        have c9 : w6.cell? ⟨H, 9, none⟩ = some (.int .i64 s1) := J.out.cell 9
        have c10 : w6.cell? ⟨H, 10, none⟩ = some (.int .u64 s2) := J.out.cell 10
        have c11 : w6.cell? ⟨H, 11, none⟩ = some (.int .i64 s3) := J.out.cell 11
        have c12 : w6.cell? ⟨H, 12, none⟩ = some (.int .u64 s4) := J.out.cell 12
        have c13 : w6.cell? ⟨H, 13, none⟩ = some (.int .i64 a) := J.out.cell 13
        have c14 : w6.cell? ⟨H, 14, none⟩ = some (.int .i64 o) := J.out.cell 14
        have d0 : w6.cell? ⟨G, 0, none⟩ = some (.bool true) := Q.out.cell 0
        have d1 : w6.cell? ⟨G, 1, none⟩ = some (.bool true) := Q.out.cell 1
        have d2 : w6.cell? ⟨G, 2, none⟩ = some (.bool true) := Q.out.cell 2
        have d3 : w6.cell? ⟨G, 3, none⟩ = some (.bool true) := Q.out.cell 3
        go_wp2_with fail
        clear c0 c1 c2 c3 c4 c5 c6 c7 c8 c9 c10 c11 c12 c13 c14 d0 d1 d2 d3
        refine (refMayBe_any s0 s1 s2 s3 s4 hs4 _ HR.out).mono ?_; rintro e w7 ⟨rfl, hb⟩
        replace J := hide (J.out.below hb)
        replace Q := hide (Q.out.below hb)
        replace HR := hide (HR.out.below hb)
        replace B := hide (B.out.trans (hb.mono B.out.size))
        clear hb
        rcases hqs : refOk s1 s2 s3 s4 with _ | _
        · skip
          have c0 : w7.cell? ⟨H, 0, none⟩ = some (.int .i64 k) := J.out.cell 0
          have c1 : w7.cell? ⟨H, 1, none⟩ = some (.int .i64 x) := J.out.cell 1
          have c2 : w7.cell? ⟨H, 2, none⟩ = some (.int .u64 y) := J.out.cell 2
          have c3 : w7.cell? ⟨H, 3, none⟩ = some (.int .i64 r0) := J.out.cell 3
          have c4 : w7.cell? ⟨H, 4, none⟩ = some (.int .i64 r1) := J.out.cell 4
          have c5 : w7.cell? ⟨H, 5, none⟩ = some (.int .u64 r2) := J.out.cell 5
          have c6 : w7.cell? ⟨H, 6, none⟩ = some (.int .i64 r3) := J.out.cell 6
          have c7 : w7.cell? ⟨H, 7, none⟩ = some (.int .u64 r4) := J.out.cell 7
          have c8 : w7.cell? ⟨H, 8, none⟩ = some (.int .i64 s0) := J.out.cell 8
          have c9 : w7.cell? ⟨H, 9, none⟩ = some (.int .i64 s1) := J.out.cell 9
          have c10 : w7.cell? ⟨H, 10, none⟩ = some (.int .u64 s2) := J.out.cell 10
          have c11 : w7.cell? ⟨H, 11, none⟩ = some (.int .i64 s3) := J.out.cell 11
          have c12 : w7.cell? ⟨H, 12, none⟩ = some (.int .u64 s4) := J.out.cell 12
          have c13 : w7.cell? ⟨H, 13, none⟩ = some (.int .i64 a) := J.out.cell 13
          have c14 : w7.cell? ⟨H, 14, none⟩ = some (.int .i64 o) := J.out.cell 14
          have d0 : w7.cell? ⟨G, 0, none⟩ = some (.bool true) := Q.out.cell 0
          have d1 : w7.cell? ⟨G, 1, none⟩ = some (.bool true) := Q.out.cell 1
          have d2 : w7.cell? ⟨G, 2, none⟩ = some (.bool true) := Q.out.cell 2
          have d3 : w7.cell? ⟨G, 3, none⟩ = some (.bool true) := Q.out.cell 3
          go_wp2_with fail
          refine (allowed_no _).mono ?_; intro e w9 hE; obtain ⟨rfl, hw9⟩ := hE
          rw [hw9]
          clear hw9
          go_wp2
          go_ret
          exact ⟨by rw [hz, hq, hqr, hqs]; rfl, B.out⟩
        · skip
          have c0 : w7.cell? ⟨H, 0, none⟩ = some (.int .i64 k) := J.out.cell 0
          have c1 : w7.cell? ⟨H, 1, none⟩ = some (.int .i64 x) := J.out.cell 1
          have c2 : w7.cell? ⟨H, 2, none⟩ = some (.int .u64 y) := J.out.cell 2
          have c3 : w7.cell? ⟨H, 3, none⟩ = some (.int .i64 r0) := J.out.cell 3
          have c4 : w7.cell? ⟨H, 4, none⟩ = some (.int .i64 r1) := J.out.cell 4
          have c5 : w7.cell? ⟨H, 5, none⟩ = some (.int .u64 r2) := J.out.cell 5
          have c6 : w7.cell? ⟨H, 6, none⟩ = some (.int .i64 r3) := J.out.cell 6
          have c7 : w7.cell? ⟨H, 7, none⟩ = some (.int .u64 r4) := J.out.cell 7
          have c8 : w7.cell? ⟨H, 8, none⟩ = some (.int .i64 s0) := J.out.cell 8
          have c9 : w7.cell? ⟨H, 9, none⟩ = some (.int .i64 s1) := J.out.cell 9
          have c10 : w7.cell? ⟨H, 10, none⟩ = some (.int .u64 s2) := J.out.cell 10
          have c11 : w7.cell? ⟨H, 11, none⟩ = some (.int .i64 s3) := J.out.cell 11
          have c12 : w7.cell? ⟨H, 12, none⟩ = some (.int .u64 s4) := J.out.cell 12
          have c13 : w7.cell? ⟨H, 13, none⟩ = some (.int .i64 a) := J.out.cell 13
          have c14 : w7.cell? ⟨H, 14, none⟩ = some (.int .i64 o) := J.out.cell 14
          have d0 : w7.cell? ⟨G, 0, none⟩ = some (.bool true) := Q.out.cell 0
          have d1 : w7.cell? ⟨G, 1, none⟩ = some (.bool true) := Q.out.cell 1
          have d2 : w7.cell? ⟨G, 2, none⟩ = some (.bool true) := Q.out.cell 2
          have d3 : w7.cell? ⟨G, 3, none⟩ = some (.bool true) := Q.out.cell 3
          go_wp2_with fail
          refine (allowed_yes _).mono ?_; intro e w9 hE; obtain ⟨rfl, hw9⟩ := hE
          rw [hw9]
          clear hw9
          go_wp2
          go_ret
          exact ⟨by rw [hz, hq, hqr, hqs]; rfl, B.out⟩

set_option maxHeartbeats 8000000 in
set_option maxRecDepth 100000 in
theorem ack_no (k x y r0 r1 r2 r3 r4 s0 s1 s2 s3 s4 a o : Int) (hk : k ≠ 1 ∧ k ≠ 2 ∧ k ≠ 3 ∧ k ≠ 4 ∧ k ≠ 5 ∧ k ≠ 6 ∧ k ≠ 7 ∧ k ≠ 8 ∧ k ≠ 9 ∧ k ≠ 10) (w : World) : Calls Tryd.prog 19 #[.agg #[.int .i64 k, .int .i64 x, .int .u64 y, .int .i64 r0, .int .i64 r1, .int .u64 r2, .int .i64 r3, .int .u64 r4, .int .i64 s0, .int .i64 s1, .int .u64 s2, .int .i64 s3, .int .u64 s4, .int .i64 a, .int .i64 o]] w fun e w' => e = .returned (.int .i64 40) ∧ Below w.heap.size w w' := by
  replace hk := hide hk
  have J := hide (IsB.new w #[.int .i64 k, .int .i64 x, .int .u64 y, .int .i64 r0, .int .i64 r1, .int .u64 r2, .int .i64 r3, .int .u64 r4, .int .i64 s0, .int .i64 s1, .int .u64 s2, .int .i64 s3, .int .u64 s4, .int .i64 a, .int .i64 o] 58)
  have B := hide (show Below w.heap.size w (w.alloc (.cells #[.int .i64 k, .int .i64 x, .int .u64 y, .int .i64 r0, .int .i64 r1, .int .u64 r2, .int .i64 r3, .int .u64 r4, .int .i64 s0, .int .i64 s1, .int .u64 s2, .int .i64 s3, .int .u64 s4, .int .i64 a, .int .i64 o] 58)) from (Below.refl _ w).alloc (Nat.le_refl _) _)
  go_enter Tryd.func19, Tryd.ntmps19
  go_wp2_with fail
  generalize w.alloc (.cells #[.int .i64 k, .int .i64 x, .int .u64 y, .int .i64 r0, .int .i64 r1, .int .u64 r2, .int .i64 r3, .int .u64 r4, .int .i64 s0, .int .i64 s1, .int .u64 s2, .int .i64 s3, .int .u64 s4, .int .i64 a, .int .i64 o] 58) = W1 at J B ⊢
  generalize hH : w.heap.size = H at J ⊢
  replace hH := hide hH
  refine (parts_no k hk.out _).mono ?_; rintro e w2 ⟨rfl, hb⟩
  replace J := hide (J.out.below hb)
  replace B := hide (B.out.trans (hb.mono B.out.size))
  clear hb
  have hb := (Below.refl w2.heap.size w2).alloc (Nat.le_refl _) (.cells #[.bool false, .bool false, .bool false, .bool false] 81)
  replace B := hide (B.out.trans (hb.mono B.out.size))
  clear hb
  go_wp2_with fail
  refine (allowed_no _).mono ?_; intro e w9 hE; obtain ⟨rfl, hw9⟩ := hE
  rw [hw9]
  clear hw9
  go_wp2
  go_ret
  exact ⟨rfl, B.out⟩

end Go.Proofs.YtdogdinkopocaaaDoor
