/- The document's Less, IsKey, IsOwner, Head, Tail; alike asks. -/
import Derived.Test.YtfcmmchppcffmaaDoorMZV
namespace Go.Proofs.YtfcmmchppcffmaaDoor
open Go.RowKit Go.Maps Go.ChangeMaps

theorem klt_dec (r n s m : Int) : klt (r, n) (s, m) = decide (r < s ∨ r = s ∧ n < m) := by
  unfold klt
  rcases Int.lt_trichotomy r s with h | h | h
  · rw [kcmp_lt (Or.inl h)]; simp [h]
  · subst h
    rcases Int.lt_trichotomy n m with k | k | k
    · rw [kcmp_lt (Or.inr ⟨rfl, k⟩)]; simp [k]
    · subst k; rw [kcmp_eq]; simp
    · rw [kcmp_gt (Or.inr ⟨rfl, k⟩)]; simp; omega
  · rw [kcmp_gt (Or.inl h)]; simp; omega

set_option maxHeartbeats 400000 in
set_option maxRecDepth 100000 in
theorem r9Less_any (r n s m : Int) (w : World) : Calls Tryd.prog 66 #[(.agg #[.int .i64 (r), .int .u64 (n)]), (.agg #[.int .i64 (s), .int .u64 (m)])] w fun e w' => e = .returned (.bool (klt (r, n) (s, m))) ∧ Below w.heap.size w w' := by
  rw [klt_dec]
  by_cases h1 : r < s
  · have d1 : decide (r < s) = true := decide_eq_true h1
    have e1 : decide (r < s ∨ r = s ∧ n < m) = true := decide_eq_true (Or.inl h1)
    rw [e1]
    go_enter Tryd.func66, Tryd.ntmps66
    go_wp2
    go_ret
    exact ⟨rfl, by repeat (first | exact Below.refl _ _ | refine Below.alloc ?_ (by simp) _)⟩
  have d1 : decide (r < s) = false := decide_eq_false h1
  by_cases h2 : r = s
  · subst h2
    have d2 : (r == r) = true := by simp
    by_cases h3 : n < m
    · have d3 : decide (n < m) = true := decide_eq_true h3
      have e1 : decide (r < r ∨ r = r ∧ n < m) = true := decide_eq_true (Or.inr ⟨rfl, h3⟩)
      rw [e1]
      go_enter Tryd.func66, Tryd.ntmps66
      go_wp2
      go_ret
      exact ⟨rfl, by repeat (first | exact Below.refl _ _ | refine Below.alloc ?_ (by simp) _)⟩
    · have d3 : decide (n < m) = false := decide_eq_false h3
      have e1 : decide (r < r ∨ r = r ∧ n < m) = false := decide_eq_false (by omega)
      rw [e1]
      go_enter Tryd.func66, Tryd.ntmps66
      go_wp2
      go_ret
      exact ⟨rfl, by repeat (first | exact Below.refl _ _ | refine Below.alloc ?_ (by simp) _)⟩
  · have d2 : (r == s) = false := by simpa using h2
    have e1 : decide (r < s ∨ r = s ∧ n < m) = false := decide_eq_false (by omega)
    rw [e1]
    go_enter Tryd.func66, Tryd.ntmps66
    go_wp2
    go_ret
    exact ⟨rfl, by repeat (first | exact Below.refl _ _ | refine Below.alloc ?_ (by simp) _)⟩



/-- May an owner be? -/
def okO (a o : Int) : Bool := decide (0 ≤ a ∧ a < 1024 ∧ 1 ≤ o ∧ o ≤ 1073741824)



set_option maxHeartbeats 1000000 in
set_option maxRecDepth 100000 in
theorem rhead_ok (n : Int) (h0 : 0 ≤ n) (h1 : n ≤ 32) (w : World) : Calls Tryd.prog 19 #[.int .i64 n] w fun e w' => e = .returned (.tuple #[.agg #[.int .i64 0, .int .i64 1, .int .u64 0, .int .i64 n, .int .u64 0], .int .i64 0]) ∧ Below w.heap.size w w' := by
  have d0 : decide (n < 0) = false := decide_eq_false (by omega)
  have d1 : decide (32 < n) = false := decide_eq_false (by omega)
  go_enter Tryd.func19, Tryd.ntmps19
  go_wp2
  refine ret_rt (p := 2) (u := 3) (b := w.heap.size) Tryd.results19 rfl rfl rfl (IsB.new w #[.int .i64 0, .int .i64 1, .int .u64 0, .int .i64 n, .int .u64 0] 30) ?_
  exact ⟨rfl, (Below.refl _ w).alloc (Nat.le_refl _) _⟩

set_option maxHeartbeats 1000000 in
set_option maxRecDepth 100000 in
theorem rtail_ok (n : Int) (h0 : 0 ≤ n) (h1 : n ≤ 32) (w : World) : Calls Tryd.prog 20 #[.int .i64 n] w fun e w' => e = .returned (.tuple #[.agg #[.int .i64 1, .int .i64 3, .int .u64 0, .int .i64 n, .int .u64 0], .int .i64 0]) ∧ Below w.heap.size w w' := by
  have d0 : decide (n < 0) = false := decide_eq_false (by omega)
  have d1 : decide (32 < n) = false := decide_eq_false (by omega)
  go_enter Tryd.func20, Tryd.ntmps20
  go_wp2
  refine ret_rt (p := 2) (u := 3) (b := w.heap.size) Tryd.results20 rfl rfl rfl (IsB.new w #[.int .i64 1, .int .i64 3, .int .u64 0, .int .i64 n, .int .u64 0] 30) ?_
  exact ⟨rfl, (Below.refl _ w).alloc (Nat.le_refl _) _⟩

theorem eqv (a b c d : Int) (w : World) : (binOp .eql 28 (.agg #[.int .i64 a, .int .u64 b]) (.agg #[.int .i64 c, .int .u64 d])).run Tryd.prog w = .ok (.bool (a == c && b == d)) w := by
  have u1 := Tryd.underlying3
  have a1 := Tryd.isAgg3
  have z1 := Tryd.sizeOf3
  have u2 := Tryd.underlying24
  have a2 := Tryd.isAgg24
  have z2 := Tryd.sizeOf24
  have hS : Tryd.prog.underlying 28 = some (.struct (Tryd.prog.fieldsOf 28)) := by kernel_rfl
  have hp : Tryd.prog.stoodInHeld 28 = false := by kernel_rfl
  rw [run_eql_struct, show (10000 : Nat) = 9999 + 1 from rfl, run_equalIn_agg w 9999 28 _ _ hS hp]
  simp only [Program.fieldsOf, Tryd.underlying28]
  go_simp
  by_cases h1 : a = c <;> by_cases h2 : b = d <;> simp [h1, h2]

def akL (q x y : Int) (r1 r2 : Rf) (oa oo : Int) : List Value := [.int .i64 q, .int .i64 x, .int .u64 y, .int .i64 r1.id, .int .i64 r1.rk, .int .u64 r1.kn, .int .i64 r1.ln, .int .u64 r1.bt, .int .i64 r2.id, .int .i64 r2.rk, .int .u64 r2.kn, .int .i64 r2.ln, .int .u64 r2.bt, .int .i64 oa, .int .i64 oo]

theorem wpList_bin_w {P : Program} {ops : Array Oper} {rest : List Oper} {o : Oper} {a : Act} {w : World} {Q : Exit → Act → World → Prop} (hw : Region.wanted o (yielded ops a.tmps) = true) (k : BinOp) (ty : TypeId) (x y : Operand) (ty2 : TypeId) (ho : o.op = .binOp k ty x y ty2) {xs ys : Array Value} {v : Value} (hx : a.eval x = .agg xs) (hy : a.eval y = .agg ys) (hl : P.eqGuardType P.depth ty = false ∧ (binOp k ty (.agg xs) (.agg ys)).run P w = .ok v w)
    (h : wpList P ops Q rest (a.put o.dst v) w) : wpList P ops Q (o :: rest) a w := by
  unfold wpList
  rw [if_pos hw]
  refine Or.inl ?_
  unfold Oper.wp
  rw [exec_bin hl.1 ho hx hy hl.2]
  exact h

theorem in_vec (d : Nat) (x y : Int) (w : World) : (Op.equalIn (d + 1 + 1) 28 (.agg #[.int .i64 x, .int .u64 y]) (.agg #[.int .i64 x, .int .u64 y])).run Tryd.prog w = .ok true w := by
  have u0 := Tryd.underlying3
  have a0 := Tryd.isAgg3
  have z0 := Tryd.sizeOf3
  have u1 := Tryd.underlying24
  have a1 := Tryd.isAgg24
  have z1 := Tryd.sizeOf24
  have hS : Tryd.prog.underlying 28 = some (.struct (Tryd.prog.fieldsOf 28)) := by kernel_rfl
  have hp : Tryd.prog.stoodInHeld 28 = false := by kernel_rfl
  rw [run_equalIn_agg w (d + 1) 28 _ _ hS hp]
  simp only [Program.fieldsOf, Tryd.underlying28]
  go_simp

theorem in_key (d : Nat) (x y : Int) (w : World) : (Op.equalIn (d + 1 + 1) 26 (.agg #[.int .i64 x, .int .u64 y]) (.agg #[.int .i64 x, .int .u64 y])).run Tryd.prog w = .ok true w := by
  have u0 := Tryd.underlying23
  have a0 := Tryd.isAgg23
  have z0 := Tryd.sizeOf23
  have u1 := Tryd.underlying24
  have a1 := Tryd.isAgg24
  have z1 := Tryd.sizeOf24
  have hS : Tryd.prog.underlying 26 = some (.struct (Tryd.prog.fieldsOf 26)) := by kernel_rfl
  have hp : Tryd.prog.stoodInHeld 26 = false := by kernel_rfl
  rw [run_equalIn_agg w (d + 1) 26 _ _ hS hp]
  simp only [Program.fieldsOf, Tryd.underlying26]
  go_simp



theorem in_ref (d : Nat) (r : Rf) (w : World) : (Op.equalIn (d + 1 + 1 + 1) 30 (.agg #[.int .i64 r.id, .int .i64 r.rk, .int .u64 r.kn, .int .i64 r.ln, .int .u64 r.bt]) (.agg #[.int .i64 r.id, .int .i64 r.rk, .int .u64 r.kn, .int .i64 r.ln, .int .u64 r.bt])).run Tryd.prog w = .ok true w := by
  have u0 := Tryd.underlying3
  have a0 := Tryd.isAgg3
  have z0 := Tryd.sizeOf3
  have g0 := Tryd.isAgg26
  have s0 := Tryd.sizeOf26
  have g1 := Tryd.isAgg28
  have s1 := Tryd.sizeOf28
  have e1 := in_key d
  have e2 := in_vec d
  have hS : Tryd.prog.underlying 30 = some (.struct (Tryd.prog.fieldsOf 30)) := by kernel_rfl
  have hp : Tryd.prog.stoodInHeld 30 = false := by kernel_rfl
  rw [run_equalIn_agg w (d + 1 + 1) 30 _ _ hS hp]
  clear hS hp
  simp only [Program.fieldsOf, Tryd.underlying30]
  go_simp



end Go.Proofs.YtfcmmchppcffmaaDoor
