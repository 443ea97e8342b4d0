/- Are two keys, two references the same? -/
import Derived.Test.YtokehogcenjefaaGreatDoorSV
namespace Go.Proofs.YtokehogcenjefaaGreatDoor
open Go.RowKit Go.Maps Go.ChangeMaps

theorem eqk (a b c d : Int) (w : World) : (binOp .eql 25 (.agg #[.int .i64 a, .int .u64 b]) (.agg #[.int .i64 c, .int .u64 d])).run Tryz.prog w = .ok (.bool (a == c && b == d)) w := by
 have u1 := Tryz.underlying22
 have a1 := Tryz.isAgg22
 have z1 := Tryz.sizeOf22
 have u2 := Tryz.underlying23
 have a2 := Tryz.isAgg23
 have z2 := Tryz.sizeOf23
 have hS : Tryz.prog.underlying 25 = some (.struct (Tryz.prog.fieldsOf 25)) := by kernel_rfl
 have hp : Tryz.prog.stoodInHeld 25 = false := by kernel_rfl
 rw [run_eql_struct, show (10000 : Nat) = 9999 + 1 from rfl, run_equalIn_agg w 9999 25 _ _ hS hp]
 simp only [Program.fieldsOf, Tryz.underlying25]
 go_simp
 by_cases h1 : a = c <;> by_cases h2 : b = d <;> simp [h1, h2]
theorem exec_bin {P : Program} {t t2 : TypeId} {k : BinOp} {x y : Operand} {oi : Oper} {ρ : Operand → Value} {xs ys : Array Value} {v : Value} {w : World} (hm : P.eqGuardType P.depth t = false) (hop : oi.op = .binOp k t x y t2) (hx : ρ x = .agg xs) (hy : ρ y = .agg ys) (hl : (binOp k t (.agg xs) (.agg ys)).run P w = .ok v w) : (execOp ρ oi).run P w = .ok (.value v) w := by
 simp [execOp, hop, hx, hy, run_eqGuard_agg w k t x y xs ys hm, hl, Result.andThen]
theorem kguard : Tryz.prog.eqGuardType Tryz.prog.depth 25 = false := by kernel_rfl
theorem eqr (i a b c d i' a' b' c' d' : Int) (w : World) : (binOp .eql 29 (.agg #[.int .i64 i, .int .i64 a, .int .u64 b, .int .i64 c, .int .u64 d]) (.agg #[.int .i64 i', .int .i64 a', .int .u64 b', .int .i64 c', .int .u64 d'])).run Tryz.prog w = .ok (.bool (i == i' && (a == a' && b == b') && (c == c' && d == d'))) w := by
 have u0 := Tryz.underlying22
 have a0 := Tryz.isAgg22
 have z0 := Tryz.sizeOf22
 have u1 := Tryz.underlying3
 have a1 := Tryz.isAgg3
 have z1 := Tryz.sizeOf3
 have u2 := Tryz.underlying23
 have a2 := Tryz.isAgg23
 have z2 := Tryz.sizeOf23
 have u3 := Tryz.isAgg25
 have u4 := Tryz.sizeOf25
 have u5 := Tryz.isAgg27
 have u6 := Tryz.sizeOf27
 have hS : Tryz.prog.underlying 29 = some (.struct (Tryz.prog.fieldsOf 29)) := by kernel_rfl
 have hp : Tryz.prog.stoodInHeld 29 = false := by kernel_rfl
 have hS1 : Tryz.prog.underlying 25 = some (.struct (Tryz.prog.fieldsOf 25)) := by kernel_rfl
 have hp1 : Tryz.prog.stoodInHeld 25 = false := by kernel_rfl
 have hS2 : Tryz.prog.underlying 27 = some (.struct (Tryz.prog.fieldsOf 27)) := by kernel_rfl
 have hp2 : Tryz.prog.stoodInHeld 27 = false := by kernel_rfl
 obtain ⟨dd, hd⟩ : ∃ dd, (10000 : Nat) = dd + 1 + 1 + 1 := ⟨9997, rfl⟩
 rw [run_eql_struct, hd, run_equalIn_agg w (dd + 1 + 1) 29 _ _ hS hp]
 clear hd hS
 simp only [Program.fieldsOf, Tryz.underlying29]
 have e1 : ∀ (x y x' y' : Int) w, (Op.equalIn (dd + 1 + 1) 25 (.agg #[.int .i64 x, .int .u64 y]) (.agg #[.int .i64 x', .int .u64 y'])).run Tryz.prog w = .ok (x == x' && y == y') w := fun x y x' y' w => by
   rw [run_equalIn_agg w (dd + 1) 25 _ _ hS1 hp1]
   simp only [Program.fieldsOf, Tryz.underlying25]
   go_simp
   by_cases h1 : x = x' <;> by_cases h2 : y = y' <;> simp [h1, h2]
 have e2 : ∀ (x y x' y' : Int) w, (Op.equalIn (dd + 1 + 1) 27 (.agg #[.int .i64 x, .int .u64 y]) (.agg #[.int .i64 x', .int .u64 y'])).run Tryz.prog w = .ok (x == x' && y == y') w := fun x y x' y' w => by
   rw [run_equalIn_agg w (dd + 1) 27 _ _ hS2 hp2]
   simp only [Program.fieldsOf, Tryz.underlying27]
   go_simp
   by_cases h1 : x = x' <;> by_cases h2 : y = y' <;> simp [h1, h2]
 clear hS1 hp1 hS2 hp2
 go_simp
 by_cases h1 : i = i' <;> by_cases h2 : a = a' <;> by_cases h3 : b = b' <;> by_cases h4 : c = c' <;> by_cases h5 : d = d' <;> simp [h1, h2, h3, h4, h5]
theorem ner (i a b c d i' a' b' c' d' : Int) (w : World) : (binOp .neq 29 (.agg #[.int .i64 i, .int .i64 a, .int .u64 b, .int .i64 c, .int .u64 d]) (.agg #[.int .i64 i', .int .i64 a', .int .u64 b', .int .i64 c', .int .u64 d'])).run Tryz.prog w = .ok (.bool (!(i == i' && (a == a' && b == b') && (c == c' && d == d')))) w := by
 have u0 := Tryz.underlying22
 have a0 := Tryz.isAgg22
 have z0 := Tryz.sizeOf22
 have u1 := Tryz.underlying3
 have a1 := Tryz.isAgg3
 have z1 := Tryz.sizeOf3
 have u2 := Tryz.underlying23
 have a2 := Tryz.isAgg23
 have z2 := Tryz.sizeOf23
 have u3 := Tryz.isAgg25
 have u4 := Tryz.sizeOf25
 have u5 := Tryz.isAgg27
 have u6 := Tryz.sizeOf27
 have hS : Tryz.prog.underlying 29 = some (.struct (Tryz.prog.fieldsOf 29)) := by kernel_rfl
 have hp : Tryz.prog.stoodInHeld 29 = false := by kernel_rfl
 have hS1 : Tryz.prog.underlying 25 = some (.struct (Tryz.prog.fieldsOf 25)) := by kernel_rfl
 have hp1 : Tryz.prog.stoodInHeld 25 = false := by kernel_rfl
 have hS2 : Tryz.prog.underlying 27 = some (.struct (Tryz.prog.fieldsOf 27)) := by kernel_rfl
 have hp2 : Tryz.prog.stoodInHeld 27 = false := by kernel_rfl
 obtain ⟨dd, hd⟩ : ∃ dd, (10000 : Nat) = dd + 1 + 1 + 1 := ⟨9997, rfl⟩
 rw [run_neq_struct, hd, run_equalIn_agg w (dd + 1 + 1) 29 _ _ hS hp]
 clear hd hS
 simp only [Program.fieldsOf, Tryz.underlying29]
 have e1 : ∀ (x y x' y' : Int) w, (Op.equalIn (dd + 1 + 1) 25 (.agg #[.int .i64 x, .int .u64 y]) (.agg #[.int .i64 x', .int .u64 y'])).run Tryz.prog w = .ok (x == x' && y == y') w := fun x y x' y' w => by
   rw [run_equalIn_agg w (dd + 1) 25 _ _ hS1 hp1]
   simp only [Program.fieldsOf, Tryz.underlying25]
   go_simp
   by_cases h1 : x = x' <;> by_cases h2 : y = y' <;> simp [h1, h2]
 have e2 : ∀ (x y x' y' : Int) w, (Op.equalIn (dd + 1 + 1) 27 (.agg #[.int .i64 x, .int .u64 y]) (.agg #[.int .i64 x', .int .u64 y'])).run Tryz.prog w = .ok (x == x' && y == y') w := fun x y x' y' w => by
   rw [run_equalIn_agg w (dd + 1) 27 _ _ hS2 hp2]
   simp only [Program.fieldsOf, Tryz.underlying27]
   go_simp
   by_cases h1 : x = x' <;> by_cases h2 : y = y' <;> simp [h1, h2]
 clear hS1 hp1 hS2 hp2
 go_simp
 by_cases h1 : i = i' <;> by_cases h2 : a = a' <;> by_cases h3 : b = b' <;> by_cases h4 : c = c' <;> by_cases h5 : d = d' <;> simp [h1, h2, h3, h4, h5]


theorem rguard : Tryz.prog.eqGuardType Tryz.prog.depth 29 = false := by kernel_rfl

end Go.Proofs.YtokehogcenjefaaGreatDoor
