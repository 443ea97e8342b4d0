/- Alike steps: the document's SameResult, SameStep. -/
import Derived.Test.YtdkadggcaobaaaaDoorSJ
namespace Go.Proofs.YtdkadggcaobaaaaDoor
open Go.RowKit Go.Maps Go.ChangeMaps

def akL (q x y : Int) (r1 r2 : Rf) (oa oo : Int) : List Value := [.int .i64 q, .int .i64 x, .int .u64 y, .int .i64 r1.id, .int .i64 r1.rk, .int .u64 r1.kn, .int .i64 r1.ln, .int .u64 r1.bt, .int .i64 r2.id, .int .i64 r2.rk, .int .u64 r2.kn, .int .i64 r2.ln, .int .u64 r2.bt, .int .i64 oa, .int .i64 oo]
theorem wpList_bin_w {P : Program} {ops : Array Oper} {rest : List Oper} {o : Oper} {a : Act} {w : World} {Q : Exit → Act → World → Prop} (hw : Region.wanted o (yielded ops a.tmps) = true) (k : BinOp) (ty : TypeId) (x y : Operand) (ty2 : TypeId) (ho : o.op = .binOp k ty x y ty2) {xs ys : Array Value} {v : Value} (hx : a.eval x = .agg xs) (hy : a.eval y = .agg ys) (hl : P.eqGuardType P.depth ty = false ∧ (binOp k ty (.agg xs) (.agg ys)).run P w = .ok v w)
    (h : wpList P ops Q rest (a.put o.dst v) w) : wpList P ops Q (o :: rest) a w := by
  unfold wpList
  rw [if_pos hw]
  refine Or.inl ?_
  unfold Oper.wp
  rw [exec_bin hl.1 ho hx hy hl.2]
  exact h
theorem in_vec (d : Nat) (x y : Int) (w : World) : (Op.equalIn (d + 1 + 1) 27 (.agg #[.int .i64 x, .int .u64 y]) (.agg #[.int .i64 x, .int .u64 y])).run Tryd.prog w = .ok true w := by
  have u0 := Tryd.underlying3
  have a0 := Tryd.isAgg3
  have z0 := Tryd.sizeOf3
  have u1 := Tryd.underlying23
  have a1 := Tryd.isAgg23
  have z1 := Tryd.sizeOf23
  have hS : Tryd.prog.underlying 27 = some (.struct (Tryd.prog.fieldsOf 27)) := by kernel_rfl
  have hp : Tryd.prog.stoodInHeld 27 = false := by kernel_rfl
  rw [run_equalIn_agg w (d + 1) 27 _ _ hS hp]
  simp only [Program.fieldsOf, Tryd.underlying27]
  go_simp
theorem in_key (d : Nat) (x y : Int) (w : World) : (Op.equalIn (d + 1 + 1) 25 (.agg #[.int .i64 x, .int .u64 y]) (.agg #[.int .i64 x, .int .u64 y])).run Tryd.prog w = .ok true w := by
  have u0 := Tryd.underlying22
  have a0 := Tryd.isAgg22
  have z0 := Tryd.sizeOf22
  have u1 := Tryd.underlying23
  have a1 := Tryd.isAgg23
  have z1 := Tryd.sizeOf23
  have hS : Tryd.prog.underlying 25 = some (.struct (Tryd.prog.fieldsOf 25)) := by kernel_rfl
  have hp : Tryd.prog.stoodInHeld 25 = false := by kernel_rfl
  rw [run_equalIn_agg w (d + 1) 25 _ _ hS hp]
  simp only [Program.fieldsOf, Tryd.underlying25]
  go_simp
theorem in_owner (d : Nat) (x y : Int) (w : World) : (Op.equalIn (d + 1 + 1) 50 (.agg #[.int .i64 x, .int .i64 y]) (.agg #[.int .i64 x, .int .i64 y])).run Tryd.prog w = .ok true w := by
  have u0 := Tryd.underlying3
  have a0 := Tryd.isAgg3
  have z0 := Tryd.sizeOf3
  have hS : Tryd.prog.underlying 50 = some (.struct (Tryd.prog.fieldsOf 50)) := by kernel_rfl
  have hp : Tryd.prog.stoodInHeld 50 = false := by kernel_rfl
  rw [run_equalIn_agg w (d + 1) 50 _ _ hS hp]
  simp only [Program.fieldsOf, Tryd.underlying50]
  go_simp
theorem in_ref (d : Nat) (r : Rf) (w : World) : (Op.equalIn (d + 1 + 1 + 1) 29 (.agg #[.int .i64 r.id, .int .i64 r.rk, .int .u64 r.kn, .int .i64 r.ln, .int .u64 r.bt]) (.agg #[.int .i64 r.id, .int .i64 r.rk, .int .u64 r.kn, .int .i64 r.ln, .int .u64 r.bt])).run Tryd.prog w = .ok true w := by
  have u0 := Tryd.underlying3
  have a0 := Tryd.isAgg3
  have z0 := Tryd.sizeOf3
  have g0 := Tryd.isAgg25
  have s0 := Tryd.sizeOf25
  have g1 := Tryd.isAgg27
  have s1 := Tryd.sizeOf27
  have e1 := in_key d
  have e2 := in_vec d
  have hS : Tryd.prog.underlying 29 = some (.struct (Tryd.prog.fieldsOf 29)) := by kernel_rfl
  have hp : Tryd.prog.stoodInHeld 29 = false := by kernel_rfl
  rw [run_equalIn_agg w (d + 1 + 1) 29 _ _ hS hp]
  clear hS hp
  simp only [Program.fieldsOf, Tryd.underlying29]
  go_simp
theorem eqa (q x y : Int) (r1 r2 : Rf) (oa oo : Int) (w : World) : Tryd.prog.eqGuardType Tryd.prog.depth 52 = false ∧ (binOp .eql 52 (.agg (akL q x y r1 r2 oa oo).toArray) (.agg (akL q x y r1 r2 oa oo).toArray)).run Tryd.prog w = .ok (.bool true) w := by
  refine ⟨by kernel_rfl, ?_⟩
  show (binOp .eql 52 (.agg #[.int .i64 q, .int .i64 x, .int .u64 y, .int .i64 r1.id, .int .i64 r1.rk, .int .u64 r1.kn, .int .i64 r1.ln, .int .u64 r1.bt, .int .i64 r2.id, .int .i64 r2.rk, .int .u64 r2.kn, .int .i64 r2.ln, .int .u64 r2.bt, .int .i64 oa, .int .i64 oo]) (.agg #[.int .i64 q, .int .i64 x, .int .u64 y, .int .i64 r1.id, .int .i64 r1.rk, .int .u64 r1.kn, .int .i64 r1.ln, .int .u64 r1.bt, .int .i64 r2.id, .int .i64 r2.rk, .int .u64 r2.kn, .int .i64 r2.ln, .int .u64 r2.bt, .int .i64 oa, .int .i64 oo])).run Tryd.prog w = .ok (.bool true) w
  have u0 := Tryd.underlying48
  have a0 := Tryd.isAgg48
  have z0 := Tryd.sizeOf48
  have g0 := Tryd.isAgg29
  have s0 := Tryd.sizeOf29
  have g1 := Tryd.isAgg27
  have s1 := Tryd.sizeOf27
  have g2 := Tryd.isAgg50
  have s2 := Tryd.sizeOf50
  have hS : Tryd.prog.underlying 52 = some (.struct (Tryd.prog.fieldsOf 52)) := by kernel_rfl
  have hp : Tryd.prog.stoodInHeld 52 = false := by kernel_rfl
  obtain ⟨dd, hd⟩ : ∃ dd, (10000 : Nat) = dd + 1 + 1 + 1 + 1 := ⟨9996, rfl⟩
  rw [run_eql_struct, hd, run_equalIn_agg w (dd + 1 + 1 + 1) 52 _ _ hS hp]
  have e1 := in_ref dd
  have e2 := in_vec (dd + 1)
  have e3 := in_owner (dd + 1)
  clear hd hS hp
  simp only [Program.fieldsOf, Tryd.underlying52]
  go_simp
theorem eqr_r (r : Rf) (w : World) : Tryd.prog.eqGuardType Tryd.prog.depth 29 = false ∧ (binOp .eql 29 (.agg r.cells) (.agg r.cells)).run Tryd.prog w = .ok (.bool true) w := by
  refine ⟨rguard, ?_⟩
  have h := eqr r.id r.rk r.kn r.ln r.bt r.id r.rk r.kn r.ln r.bt w
  simp at h
  exact h
theorem ner_r (r : Rf) (w : World) : Tryd.prog.eqGuardType Tryd.prog.depth 29 = false ∧ (binOp .neq 29 (.agg r.cells) (.agg r.cells)).run Tryd.prog w = .ok (.bool false) w := by
  refine ⟨rguard, ?_⟩
  have h := ner r.id r.rk r.kn r.ln r.bt r.id r.rk r.kn r.ln r.bt w
  simp at h
  exact h
theorem conv0 (w : World) : (convert 43 9 (.slice none 0 0)).run Tryd.prog w = .ok (.string ⟨#[]⟩) w := by kernel_rfl

set_option maxHeartbeats 2000000 in
set_option maxRecDepth 100000 in
theorem sameRes_true (e : Int) (l r : Rf) (w : World) : Calls Tryd.prog 41 #[.agg (rsL e l r true).toArray, .agg (rsL e l r true).toArray] w fun e' w' => e' = .returned (.bool true) ∧ Below w.heap.size w w' := by
  have b1 := ((Below.refl w.heap.size w).alloc (Nat.le_refl _) (.cells (rsL e l r true).toArray 55)).alloc (by simp) (.cells (rsL e l r true).toArray 55)
  have A := (IsB.new w (rsL e l r true).toArray 55).below ((Below.refl _ _).alloc (Nat.le_refl _) (.cells (rsL e l r true).toArray 55))
  have C := IsB.new (w.alloc (.cells (rsL e l r true).toArray 55)) (rsL e l r true).toArray 55
  rw [World.size_alloc] at C
  have B := hide b1
  have l1 := hide (load_mid A 4 29 l.cs _ rfl Tryd.underlying29 rfl (by kernel_rfl))
  have l2 := hide (load_mid C 4 29 l.cs _ rfl Tryd.underlying29 rfl (by kernel_rfl))
  have l3 := hide (load_mid A 9 29 r.cs _ rfl Tryd.underlying29 rfl (by kernel_rfl))
  have l4 := hide (load_mid C 9 29 r.cs _ rfl Tryd.underlying29 rfl (by kernel_rfl))
  have N1 := hide (ner_r l ((w.alloc (.cells (rsL e l r true).toArray 55)).alloc (.cells (rsL e l r true).toArray 55)))
  have N2 := hide (ner_r r ((w.alloc (.cells (rsL e l r true).toArray 55)).alloc (.cells (rsL e l r true).toArray 55)))
  have a0 : ((w.alloc (.cells (rsL e l r true).toArray 55)).alloc (.cells (rsL e l r true).toArray 55)).cell? ⟨w.heap.size, 0, none⟩ = some (.int .i64 e) := A.cell 0
  have a1 : ((w.alloc (.cells (rsL e l r true).toArray 55)).alloc (.cells (rsL e l r true).toArray 55)).cell? ⟨w.heap.size, 1, none⟩ = some (.int .u64 0) := A.cell 1
  have a2 : ((w.alloc (.cells (rsL e l r true).toArray 55)).alloc (.cells (rsL e l r true).toArray 55)).cell? ⟨w.heap.size, 2, none⟩ = some (.slice none 0 0) := A.cell 2
  have a3 : ((w.alloc (.cells (rsL e l r true).toArray 55)).alloc (.cells (rsL e l r true).toArray 55)).cell? ⟨w.heap.size, 3, none⟩ = some (.slice none 0 0) := A.cell 3
  have a14 : ((w.alloc (.cells (rsL e l r true).toArray 55)).alloc (.cells (rsL e l r true).toArray 55)).cell? ⟨w.heap.size, 14, none⟩ = some (.bool true) := A.cell 14
  have c0 : ((w.alloc (.cells (rsL e l r true).toArray 55)).alloc (.cells (rsL e l r true).toArray 55)).cell? ⟨w.heap.size + 1, 0, none⟩ = some (.int .i64 e) := C.cell 0
  have c1 : ((w.alloc (.cells (rsL e l r true).toArray 55)).alloc (.cells (rsL e l r true).toArray 55)).cell? ⟨w.heap.size + 1, 1, none⟩ = some (.int .u64 0) := C.cell 1
  have c2 : ((w.alloc (.cells (rsL e l r true).toArray 55)).alloc (.cells (rsL e l r true).toArray 55)).cell? ⟨w.heap.size + 1, 2, none⟩ = some (.slice none 0 0) := C.cell 2
  have c3 : ((w.alloc (.cells (rsL e l r true).toArray 55)).alloc (.cells (rsL e l r true).toArray 55)).cell? ⟨w.heap.size + 1, 3, none⟩ = some (.slice none 0 0) := C.cell 3
  have c14 : ((w.alloc (.cells (rsL e l r true).toArray 55)).alloc (.cells (rsL e l r true).toArray 55)).cell? ⟨w.heap.size + 1, 14, none⟩ = some (.bool true) := C.cell 14
  have cv := conv0 ((w.alloc (.cells (rsL e l r true).toArray 55)).alloc (.cells (rsL e l r true).toArray 55))
  clear b1 A C
  skip
  go_enter Tryd.func41, Tryd.ntmps41
  go_wp2_with (first | (focus ((with_reducible refine wpList_load_w ?_ 29 (.tmp 37) ?_ ?_ l1.out ?_); rotate_left; rfl; rfl; rotate_left; rfl)) | (focus ((with_reducible refine wpList_load_w ?_ 29 (.tmp 39) ?_ ?_ l2.out ?_); rotate_left; rfl; rfl; rotate_left; rfl)) | (focus ((with_reducible refine wpList_load_w ?_ 29 (.tmp 44) ?_ ?_ l3.out ?_); rotate_left; rfl; rfl; rotate_left; rfl)) | (focus ((with_reducible refine wpList_load_w ?_ 29 (.tmp 46) ?_ ?_ l4.out ?_); rotate_left; rfl; rfl; rotate_left; rfl)) | (focus ((with_reducible refine wpList_bin_w ?_ .neq 29 (.tmp 38) (.tmp 40) 29 ?_ ?_ ?_ N1.out ?_); rotate_left; rfl; rfl; rfl; rotate_left; rfl)) | (focus ((with_reducible refine wpList_bin_w ?_ .neq 29 (.tmp 45) (.tmp 47) 29 ?_ ?_ ?_ N2.out ?_); rotate_left; rfl; rfl; rfl; rotate_left; rfl)))
  go_loop [5] (fun i => i = .int .i64 0) (fun _ => 0)
  case atStart => rfl
  case round =>
    subst hrel
    go_wp2
    go_ret
    exact ⟨rfl, B.out⟩

set_option maxHeartbeats 2000000 in
set_option maxRecDepth 100000 in
theorem sameRes_false (e : Int) (l r : Rf) (w : World) : Calls Tryd.prog 41 #[.agg (rsL e l r false).toArray, .agg (rsL e l r false).toArray] w fun e' w' => e' = .returned (.bool true) ∧ Below w.heap.size w w' := by
  have b1 := ((Below.refl w.heap.size w).alloc (Nat.le_refl _) (.cells (rsL e l r false).toArray 55)).alloc (by simp) (.cells (rsL e l r false).toArray 55)
  have A := (IsB.new w (rsL e l r false).toArray 55).below ((Below.refl _ _).alloc (Nat.le_refl _) (.cells (rsL e l r false).toArray 55))
  have C := IsB.new (w.alloc (.cells (rsL e l r false).toArray 55)) (rsL e l r false).toArray 55
  rw [World.size_alloc] at C
  have B := hide b1
  have l1 := hide (load_mid A 4 29 l.cs _ rfl Tryd.underlying29 rfl (by kernel_rfl))
  have l2 := hide (load_mid C 4 29 l.cs _ rfl Tryd.underlying29 rfl (by kernel_rfl))
  have l3 := hide (load_mid A 9 29 r.cs _ rfl Tryd.underlying29 rfl (by kernel_rfl))
  have l4 := hide (load_mid C 9 29 r.cs _ rfl Tryd.underlying29 rfl (by kernel_rfl))
  have N1 := hide (ner_r l ((w.alloc (.cells (rsL e l r false).toArray 55)).alloc (.cells (rsL e l r false).toArray 55)))
  have N2 := hide (ner_r r ((w.alloc (.cells (rsL e l r false).toArray 55)).alloc (.cells (rsL e l r false).toArray 55)))
  have a0 : ((w.alloc (.cells (rsL e l r false).toArray 55)).alloc (.cells (rsL e l r false).toArray 55)).cell? ⟨w.heap.size, 0, none⟩ = some (.int .i64 e) := A.cell 0
  have a1 : ((w.alloc (.cells (rsL e l r false).toArray 55)).alloc (.cells (rsL e l r false).toArray 55)).cell? ⟨w.heap.size, 1, none⟩ = some (.int .u64 0) := A.cell 1
  have a2 : ((w.alloc (.cells (rsL e l r false).toArray 55)).alloc (.cells (rsL e l r false).toArray 55)).cell? ⟨w.heap.size, 2, none⟩ = some (.slice none 0 0) := A.cell 2
  have a3 : ((w.alloc (.cells (rsL e l r false).toArray 55)).alloc (.cells (rsL e l r false).toArray 55)).cell? ⟨w.heap.size, 3, none⟩ = some (.slice none 0 0) := A.cell 3
  have a14 : ((w.alloc (.cells (rsL e l r false).toArray 55)).alloc (.cells (rsL e l r false).toArray 55)).cell? ⟨w.heap.size, 14, none⟩ = some (.bool false) := A.cell 14
  have c0 : ((w.alloc (.cells (rsL e l r false).toArray 55)).alloc (.cells (rsL e l r false).toArray 55)).cell? ⟨w.heap.size + 1, 0, none⟩ = some (.int .i64 e) := C.cell 0
  have c1 : ((w.alloc (.cells (rsL e l r false).toArray 55)).alloc (.cells (rsL e l r false).toArray 55)).cell? ⟨w.heap.size + 1, 1, none⟩ = some (.int .u64 0) := C.cell 1
  have c2 : ((w.alloc (.cells (rsL e l r false).toArray 55)).alloc (.cells (rsL e l r false).toArray 55)).cell? ⟨w.heap.size + 1, 2, none⟩ = some (.slice none 0 0) := C.cell 2
  have c3 : ((w.alloc (.cells (rsL e l r false).toArray 55)).alloc (.cells (rsL e l r false).toArray 55)).cell? ⟨w.heap.size + 1, 3, none⟩ = some (.slice none 0 0) := C.cell 3
  have c14 : ((w.alloc (.cells (rsL e l r false).toArray 55)).alloc (.cells (rsL e l r false).toArray 55)).cell? ⟨w.heap.size + 1, 14, none⟩ = some (.bool false) := C.cell 14
  have cv := conv0 ((w.alloc (.cells (rsL e l r false).toArray 55)).alloc (.cells (rsL e l r false).toArray 55))
  clear b1 A C
  skip
  go_enter Tryd.func41, Tryd.ntmps41
  go_wp2_with (first | (focus ((with_reducible refine wpList_load_w ?_ 29 (.tmp 37) ?_ ?_ l1.out ?_); rotate_left; rfl; rfl; rotate_left; rfl)) | (focus ((with_reducible refine wpList_load_w ?_ 29 (.tmp 39) ?_ ?_ l2.out ?_); rotate_left; rfl; rfl; rotate_left; rfl)) | (focus ((with_reducible refine wpList_load_w ?_ 29 (.tmp 44) ?_ ?_ l3.out ?_); rotate_left; rfl; rfl; rotate_left; rfl)) | (focus ((with_reducible refine wpList_load_w ?_ 29 (.tmp 46) ?_ ?_ l4.out ?_); rotate_left; rfl; rfl; rotate_left; rfl)) | (focus ((with_reducible refine wpList_bin_w ?_ .neq 29 (.tmp 38) (.tmp 40) 29 ?_ ?_ ?_ N1.out ?_); rotate_left; rfl; rfl; rfl; rotate_left; rfl)) | (focus ((with_reducible refine wpList_bin_w ?_ .neq 29 (.tmp 45) (.tmp 47) 29 ?_ ?_ ?_ N2.out ?_); rotate_left; rfl; rfl; rfl; rotate_left; rfl)))
  go_loop [5] (fun i => i = .int .i64 0) (fun _ => 0)
  case atStart => rfl
  case round =>
    subst hrel
    go_wp2
    go_ret
    exact ⟨rfl, B.out⟩

theorem sameRes_any (e : Int) (l r : Rf) (f : Bool) (w : World) : Calls Tryd.prog 41 #[.agg (rsL e l r f).toArray, .agg (rsL e l r f).toArray] w fun e' w' => e' = .returned (.bool true) ∧ Below w.heap.size w w' := by
  cases f with
  | true => exact sameRes_true e l r w
  | false => exact sameRes_false e l r w

set_option maxHeartbeats 2000000 in
set_option maxRecDepth 100000 in
theorem sameStep_any (k : Int) (r : Rf) (q x y e : Int) (l r3 : Rf) (f : Bool) (w : World) : Calls Tryd.prog 15 #[.agg (spL k r q x y e l r3 f).toArray, .agg (spL k r q x y e l r3 f).toArray] w fun e' w' => e' = .returned (.bool true) ∧ Below w.heap.size w w' := by
  have b1 := ((Below.refl w.heap.size w).alloc (Nat.le_refl _) (.cells (spL k r q x y e l r3 f).toArray 57)).alloc (by simp) (.cells (spL k r q x y e l r3 f).toArray 57)
  have A := (IsB.new w (spL k r q x y e l r3 f).toArray 57).below ((Below.refl _ _).alloc (Nat.le_refl _) (.cells (spL k r q x y e l r3 f).toArray 57))
  have C := IsB.new (w.alloc (.cells (spL k r q x y e l r3 f).toArray 57)) (spL k r q x y e l r3 f).toArray 57
  rw [World.size_alloc] at C
  have B := hide b1
  have l1 := hide (load_mid A 1 29 r.cs _ rfl Tryd.underlying29 rfl (by kernel_rfl))
  have l2 := hide (load_mid C 1 29 r.cs _ rfl Tryd.underlying29 rfl (by kernel_rfl))
  have l3 := hide (load_mid A 6 52 (akL q x y zr zr 0 0) _ rfl Tryd.underlying52 rfl (by kernel_rfl))
  have l4 := hide (load_mid C 6 52 (akL q x y zr zr 0 0) _ rfl Tryd.underlying52 rfl (by kernel_rfl))
  have l5 := hide (load_mid A 21 55 (rsL e l r3 f) _ rfl Tryd.underlying55 rfl (by kernel_rfl))
  have l6 := hide (load_mid C 21 55 (rsL e l r3 f) _ rfl Tryd.underlying55 rfl (by kernel_rfl))
  have N1 := hide (eqr_r r ((w.alloc (.cells (spL k r q x y e l r3 f).toArray 57)).alloc (.cells (spL k r q x y e l r3 f).toArray 57)))
  have N2 := hide (eqa q x y zr zr 0 0 ((w.alloc (.cells (spL k r q x y e l r3 f).toArray 57)).alloc (.cells (spL k r q x y e l r3 f).toArray 57)))
  have SR := hide (sameRes_any e l r3 f ((w.alloc (.cells (spL k r q x y e l r3 f).toArray 57)).alloc (.cells (spL k r q x y e l r3 f).toArray 57)))
  have a0 : ((w.alloc (.cells (spL k r q x y e l r3 f).toArray 57)).alloc (.cells (spL k r q x y e l r3 f).toArray 57)).cell? ⟨w.heap.size, 0, none⟩ = some (.int .i64 k) := A.cell 0
  have c0 : ((w.alloc (.cells (spL k r q x y e l r3 f).toArray 57)).alloc (.cells (spL k r q x y e l r3 f).toArray 57)).cell? ⟨w.heap.size + 1, 0, none⟩ = some (.int .i64 k) := C.cell 0
  clear b1 A C
  go_enter Tryd.func15, Tryd.ntmps15
  go_wp2_with (first | (focus ((with_reducible refine wpList_load_w ?_ 29 (.tmp 11) ?_ ?_ l1.out ?_); rotate_left; rfl; rfl; rotate_left; rfl)) | (focus ((with_reducible refine wpList_load_w ?_ 29 (.tmp 13) ?_ ?_ l2.out ?_); rotate_left; rfl; rfl; rotate_left; rfl)) | (focus ((with_reducible refine wpList_load_w ?_ 52 (.tmp 18) ?_ ?_ l3.out ?_); rotate_left; rfl; rfl; rotate_left; rfl)) | (focus ((with_reducible refine wpList_load_w ?_ 52 (.tmp 20) ?_ ?_ l4.out ?_); rotate_left; rfl; rfl; rotate_left; rfl)) | (focus ((with_reducible refine wpList_load_w ?_ 55 (.tmp 25) ?_ ?_ l5.out ?_); rotate_left; rfl; rfl; rotate_left; rfl)) | (focus ((with_reducible refine wpList_load_w ?_ 55 (.tmp 27) ?_ ?_ l6.out ?_); rotate_left; rfl; rfl; rotate_left; rfl)) | (focus ((with_reducible refine wpList_bin_w ?_ .eql 29 (.tmp 12) (.tmp 14) 29 ?_ ?_ ?_ N1.out ?_); rotate_left; rfl; rfl; rfl; rotate_left; rfl)) | (focus ((with_reducible refine wpList_bin_w ?_ .eql 52 (.tmp 19) (.tmp 21) 52 ?_ ?_ ?_ N2.out ?_); rotate_left; rfl; rfl; rfl; rotate_left; rfl)))
  refine SR.out.mono ?_
  rintro e' w3 ⟨rfl, hb⟩
  replace B := hide (B.out.trans (hb.mono B.out.size))
  clear hb SR
  go_wp2
  go_ret
  exact ⟨rfl, B.out⟩

end Go.Proofs.YtdkadggcaobaaaaDoor
