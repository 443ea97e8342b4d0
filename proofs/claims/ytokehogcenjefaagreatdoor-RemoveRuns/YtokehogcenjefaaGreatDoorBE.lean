/- Two alike steps, of any fields. -/
import Derived.Test.YtokehogcenjefaaGreatDoorED
import Derived.Test.YtokehogcenjefaaGreatDoorSJ
import Derived.Test.YtokehogcenjefaaGreatDoorAL
import Derived.Test.YtokehogcenjefaaGreatDoorEF
import Derived.Test.YtokehogcenjefaaGreatDoorDI
import Derived.Test.YtokehogcenjefaaGreatDoorEI
import Derived.Test.YtokehogcenjefaaGreatDoorEG
import Derived.Test.YtokehogcenjefaaGreatDoorDKR
namespace Go.Proofs.YtokehogcenjefaaGreatDoor
open Go.RowKit Go.Maps Go.ChangeMaps

theorem wpList_bin_w {P : Program} {ops : Array Oper} {rest : List Oper} {o : Oper} {a : Act} {w : World} {Q : Exit → Act → World → Prop} (hw : Region.wanted o (yielded ops a.tmps) = true) (k : BinOp) (ty : TypeId) (x y : Operand) (ty2 : TypeId) (ho : o.op = .binOp k ty x y ty2) {xs ys : Array Value} {v : Value} (hx : a.eval x = .agg xs) (hy : a.eval y = .agg ys) (hl : P.eqGuardType P.depth ty = false ∧ (binOp k ty (.agg xs) (.agg ys)).run P w = .ok v w)
   (h : wpList P ops Q rest (a.put o.dst v) w) : wpList P ops Q (o :: rest) a w := by
 unfold wpList
 rw [if_pos hw]
 refine Or.inl ?_
 unfold Oper.wp
 rw [exec_bin hl.1 ho hx hy hl.2]
 exact h
theorem in_vec (d : Nat) (x y : Int) (w : World) : (Op.equalIn (d + 1 + 1) 27 (.agg #[.int .i64 x, .int .u64 y]) (.agg #[.int .i64 x, .int .u64 y])).run Tryz.prog w = .ok true w := by
 have u0 := Tryz.underlying3
 have a0 := Tryz.isAgg3
 have z0 := Tryz.sizeOf3
 have u1 := Tryz.underlying23
 have a1 := Tryz.isAgg23
 have z1 := Tryz.sizeOf23
 have hS : Tryz.prog.underlying 27 = some (.struct (Tryz.prog.fieldsOf 27)) := by kernel_rfl
 have hp : Tryz.prog.stoodInHeld 27 = false := by kernel_rfl
 rw [run_equalIn_agg w (d + 1) 27 _ _ hS hp]
 simp only [Program.fieldsOf, Tryz.underlying27]
 go_simp
theorem in_key (d : Nat) (x y : Int) (w : World) : (Op.equalIn (d + 1 + 1) 25 (.agg #[.int .i64 x, .int .u64 y]) (.agg #[.int .i64 x, .int .u64 y])).run Tryz.prog w = .ok true w := by
 have u0 := Tryz.underlying22
 have a0 := Tryz.isAgg22
 have z0 := Tryz.sizeOf22
 have u1 := Tryz.underlying23
 have a1 := Tryz.isAgg23
 have z1 := Tryz.sizeOf23
 have hS : Tryz.prog.underlying 25 = some (.struct (Tryz.prog.fieldsOf 25)) := by kernel_rfl
 have hp : Tryz.prog.stoodInHeld 25 = false := by kernel_rfl
 rw [run_equalIn_agg w (d + 1) 25 _ _ hS hp]
 simp only [Program.fieldsOf, Tryz.underlying25]
 go_simp
theorem in_owner (d : Nat) (x y : Int) (w : World) : (Op.equalIn (d + 1 + 1) 31 (.agg #[.int .i64 x, .int .i64 y]) (.agg #[.int .i64 x, .int .i64 y])).run Tryz.prog w = .ok true w := by
 have u0 := Tryz.underlying3
 have a0 := Tryz.isAgg3
 have z0 := Tryz.sizeOf3
 have hS : Tryz.prog.underlying 31 = some (.struct (Tryz.prog.fieldsOf 31)) := by kernel_rfl
 have hp : Tryz.prog.stoodInHeld 31 = false := by kernel_rfl
 rw [run_equalIn_agg w (d + 1) 31 _ _ hS hp]
 simp only [Program.fieldsOf, Tryz.underlying31]
 go_simp
theorem in_ref (d : Nat) (r : Rf) (w : World) : (Op.equalIn (d + 1 + 1 + 1) 29 (.agg #[.int .i64 r.id, .int .i64 r.rk, .int .u64 r.kn, .int .i64 r.ln, .int .u64 r.bt]) (.agg #[.int .i64 r.id, .int .i64 r.rk, .int .u64 r.kn, .int .i64 r.ln, .int .u64 r.bt])).run Tryz.prog w = .ok true w := by
 have u0 := Tryz.underlying3
 have a0 := Tryz.isAgg3
 have z0 := Tryz.sizeOf3
 have g0 := Tryz.isAgg25
 have s0 := Tryz.sizeOf25
 have g1 := Tryz.isAgg27
 have s1 := Tryz.sizeOf27
 have e1 := in_key d
 have e2 := in_vec d
 have hS : Tryz.prog.underlying 29 = some (.struct (Tryz.prog.fieldsOf 29)) := by kernel_rfl
 have hp : Tryz.prog.stoodInHeld 29 = false := by kernel_rfl
 rw [run_equalIn_agg w (d + 1 + 1) 29 _ _ hS hp]
 clear hS hp
 simp only [Program.fieldsOf, Tryz.underlying29]
 go_simp
theorem eqa (q x y : Int) (r1 r2 : Rf) (oa oo : Int) (w : World) : Tryz.prog.eqGuardType Tryz.prog.depth 47 = false ∧ (binOp .eql 47 (.agg (akL q x y r1 r2 oa oo).toArray) (.agg (akL q x y r1 r2 oa oo).toArray)).run Tryz.prog w = .ok (.bool true) w := by
 refine ⟨by kernel_rfl, ?_⟩
 show (binOp .eql 47 (.agg #[.int .i64 q, .int .i64 x, .int .u64 y, .int .i64 r1.id, .int .i64 r1.rk, .int .u64 r1.kn, .int .i64 r1.ln, .int .u64 r1.bt, .int .i64 r2.id, .int .i64 r2.rk, .int .u64 r2.kn, .int .i64 r2.ln, .int .u64 r2.bt, .int .i64 oa, .int .i64 oo]) (.agg #[.int .i64 q, .int .i64 x, .int .u64 y, .int .i64 r1.id, .int .i64 r1.rk, .int .u64 r1.kn, .int .i64 r1.ln, .int .u64 r1.bt, .int .i64 r2.id, .int .i64 r2.rk, .int .u64 r2.kn, .int .i64 r2.ln, .int .u64 r2.bt, .int .i64 oa, .int .i64 oo])).run Tryz.prog w = .ok (.bool true) w
 have u0 := Tryz.underlying45
 have a0 := Tryz.isAgg45
 have z0 := Tryz.sizeOf45
 have g0 := Tryz.isAgg29
 have s0 := Tryz.sizeOf29
 have g1 := Tryz.isAgg27
 have s1 := Tryz.sizeOf27
 have g2 := Tryz.isAgg31
 have s2 := Tryz.sizeOf31
 have hS : Tryz.prog.underlying 47 = some (.struct (Tryz.prog.fieldsOf 47)) := by kernel_rfl
 have hp : Tryz.prog.stoodInHeld 47 = false := by kernel_rfl
 obtain ⟨dd, hd⟩ : ∃ dd, (10000 : Nat) = dd + 1 + 1 + 1 + 1 := ⟨9996, rfl⟩
 rw [run_eql_struct, hd, run_equalIn_agg w (dd + 1 + 1 + 1) 47 _ _ hS hp]
 have e1 := in_ref dd
 have e2 := in_vec (dd + 1)
 have e3 := in_owner (dd + 1)
 clear hd hS hp
 simp only [Program.fieldsOf, Tryz.underlying47]
 go_simp
theorem eqr_r (r : Rf) (w : World) : Tryz.prog.eqGuardType Tryz.prog.depth 29 = false ∧ (binOp .eql 29 (.agg r.cells) (.agg r.cells)).run Tryz.prog w = .ok (.bool true) w := by
 refine ⟨rguard, ?_⟩
 have h := eqr r.id r.rk r.kn r.ln r.bt r.id r.rk r.kn r.ln r.bt w
 simp at h
 exact h
theorem ner_r (r : Rf) (w : World) : Tryz.prog.eqGuardType Tryz.prog.depth 29 = false ∧ (binOp .neq 29 (.agg r.cells) (.agg r.cells)).run Tryz.prog w = .ok (.bool false) w := by
 refine ⟨rguard, ?_⟩
 have h := ner r.id r.rk r.kn r.ln r.bt r.id r.rk r.kn r.ln r.bt w
 simp at h
 exact h
theorem conv0 (w : World) : (convert 48 9 (.slice none 0 0)).run Tryz.prog w = .ok (.string ⟨#[]⟩) w := by kernel_rfl

set_option maxHeartbeats 2000000 in
set_option maxRecDepth 100000 in
theorem sameRes_true (e : Int) (l r : Rf) (w : World) : Calls Tryz.prog 29 #[.agg (rsL e l r true).toArray, .agg (rsL e l r true).toArray] w fun e' w' => e' = .returned (.bool true) ∧ Below w.heap.size w w' := by
 have b1 := ((Below.refl w.heap.size w).alloc (Nat.le_refl _) (.cells (rsL e l r true).toArray 51)).alloc (by simp) (.cells (rsL e l r true).toArray 51)
 have A := (IsB.new w (rsL e l r true).toArray 51).below ((Below.refl _ _).alloc (Nat.le_refl _) (.cells (rsL e l r true).toArray 51))
 have C := IsB.new (w.alloc (.cells (rsL e l r true).toArray 51)) (rsL e l r true).toArray 51
 rw [World.size_alloc] at C
 have B := hide b1
 have l1 := hide (load_mid A 4 29 l.cs _ rfl Tryz.underlying29 rfl (by kernel_rfl))
 have l2 := hide (load_mid C 4 29 l.cs _ rfl Tryz.underlying29 rfl (by kernel_rfl))
 have l3 := hide (load_mid A 9 29 r.cs _ rfl Tryz.underlying29 rfl (by kernel_rfl))
 have l4 := hide (load_mid C 9 29 r.cs _ rfl Tryz.underlying29 rfl (by kernel_rfl))
 have N1 := hide (ner_r l ((w.alloc (.cells (rsL e l r true).toArray 51)).alloc (.cells (rsL e l r true).toArray 51)))
 have N2 := hide (ner_r r ((w.alloc (.cells (rsL e l r true).toArray 51)).alloc (.cells (rsL e l r true).toArray 51)))
 have a0 : ((w.alloc (.cells (rsL e l r true).toArray 51)).alloc (.cells (rsL e l r true).toArray 51)).cell? ⟨w.heap.size, 0, none⟩ = some (.int .i64 e) := A.cell 0
 have a1 : ((w.alloc (.cells (rsL e l r true).toArray 51)).alloc (.cells (rsL e l r true).toArray 51)).cell? ⟨w.heap.size, 1, none⟩ = some (.int .u64 0) := A.cell 1
 have a2 : ((w.alloc (.cells (rsL e l r true).toArray 51)).alloc (.cells (rsL e l r true).toArray 51)).cell? ⟨w.heap.size, 2, none⟩ = some (.slice none 0 0) := A.cell 2
 have a3 : ((w.alloc (.cells (rsL e l r true).toArray 51)).alloc (.cells (rsL e l r true).toArray 51)).cell? ⟨w.heap.size, 3, none⟩ = some (.slice none 0 0) := A.cell 3
 have a14 : ((w.alloc (.cells (rsL e l r true).toArray 51)).alloc (.cells (rsL e l r true).toArray 51)).cell? ⟨w.heap.size, 14, none⟩ = some (.bool true) := A.cell 14
 have c0 : ((w.alloc (.cells (rsL e l r true).toArray 51)).alloc (.cells (rsL e l r true).toArray 51)).cell? ⟨w.heap.size + 1, 0, none⟩ = some (.int .i64 e) := C.cell 0
 have c1 : ((w.alloc (.cells (rsL e l r true).toArray 51)).alloc (.cells (rsL e l r true).toArray 51)).cell? ⟨w.heap.size + 1, 1, none⟩ = some (.int .u64 0) := C.cell 1
 have c2 : ((w.alloc (.cells (rsL e l r true).toArray 51)).alloc (.cells (rsL e l r true).toArray 51)).cell? ⟨w.heap.size + 1, 2, none⟩ = some (.slice none 0 0) := C.cell 2
 have c3 : ((w.alloc (.cells (rsL e l r true).toArray 51)).alloc (.cells (rsL e l r true).toArray 51)).cell? ⟨w.heap.size + 1, 3, none⟩ = some (.slice none 0 0) := C.cell 3
 have c14 : ((w.alloc (.cells (rsL e l r true).toArray 51)).alloc (.cells (rsL e l r true).toArray 51)).cell? ⟨w.heap.size + 1, 14, none⟩ = some (.bool true) := C.cell 14
 have cv := conv0 ((w.alloc (.cells (rsL e l r true).toArray 51)).alloc (.cells (rsL e l r true).toArray 51))
 clear b1 A C
 skip
 go_enter Tryz.func29, Tryz.ntmps29
 go_wp2_with (first | (focus ((with_reducible refine wpList_load_w ?_ 29 (.tmp 37) ?_ ?_ l1.out ?_); rotate_left; rfl; rfl; rotate_left; rfl)) | (focus ((with_reducible refine wpList_load_w ?_ 29 (.tmp 39) ?_ ?_ l2.out ?_); rotate_left; rfl; rfl; rotate_left; rfl)) | (focus ((with_reducible refine wpList_load_w ?_ 29 (.tmp 44) ?_ ?_ l3.out ?_); rotate_left; rfl; rfl; rotate_left; rfl)) | (focus ((with_reducible refine wpList_load_w ?_ 29 (.tmp 46) ?_ ?_ l4.out ?_); rotate_left; rfl; rfl; rotate_left; rfl)) | (focus ((with_reducible refine wpList_bin_w ?_ .neq 29 (.tmp 38) (.tmp 40) 29 ?_ ?_ ?_ N1.out ?_); rotate_left; rfl; rfl; rfl; rotate_left; rfl)) | (focus ((with_reducible refine wpList_bin_w ?_ .neq 29 (.tmp 45) (.tmp 47) 29 ?_ ?_ ?_ N2.out ?_); rotate_left; rfl; rfl; rfl; rotate_left; rfl)))
 go_loop [5] (fun i => i = .int .i64 0) (fun _ => 0)
 case atStart => rfl
 case round =>
   subst hrel
   go_wp2
   go_ret
   exact ⟨rfl, B.out⟩

set_option maxHeartbeats 2000000 in
set_option maxRecDepth 100000 in
theorem sameRes_false (e : Int) (l r : Rf) (w : World) : Calls Tryz.prog 29 #[.agg (rsL e l r false).toArray, .agg (rsL e l r false).toArray] w fun e' w' => e' = .returned (.bool true) ∧ Below w.heap.size w w' := by
 have b1 := ((Below.refl w.heap.size w).alloc (Nat.le_refl _) (.cells (rsL e l r false).toArray 51)).alloc (by simp) (.cells (rsL e l r false).toArray 51)
 have A := (IsB.new w (rsL e l r false).toArray 51).below ((Below.refl _ _).alloc (Nat.le_refl _) (.cells (rsL e l r false).toArray 51))
 have C := IsB.new (w.alloc (.cells (rsL e l r false).toArray 51)) (rsL e l r false).toArray 51
 rw [World.size_alloc] at C
 have B := hide b1
 have l1 := hide (load_mid A 4 29 l.cs _ rfl Tryz.underlying29 rfl (by kernel_rfl))
 have l2 := hide (load_mid C 4 29 l.cs _ rfl Tryz.underlying29 rfl (by kernel_rfl))
 have l3 := hide (load_mid A 9 29 r.cs _ rfl Tryz.underlying29 rfl (by kernel_rfl))
 have l4 := hide (load_mid C 9 29 r.cs _ rfl Tryz.underlying29 rfl (by kernel_rfl))
 have N1 := hide (ner_r l ((w.alloc (.cells (rsL e l r false).toArray 51)).alloc (.cells (rsL e l r false).toArray 51)))
 have N2 := hide (ner_r r ((w.alloc (.cells (rsL e l r false).toArray 51)).alloc (.cells (rsL e l r false).toArray 51)))
 have a0 : ((w.alloc (.cells (rsL e l r false).toArray 51)).alloc (.cells (rsL e l r false).toArray 51)).cell? ⟨w.heap.size, 0, none⟩ = some (.int .i64 e) := A.cell 0
 have a1 : ((w.alloc (.cells (rsL e l r false).toArray 51)).alloc (.cells (rsL e l r false).toArray 51)).cell? ⟨w.heap.size, 1, none⟩ = some (.int .u64 0) := A.cell 1
 have a2 : ((w.alloc (.cells (rsL e l r false).toArray 51)).alloc (.cells (rsL e l r false).toArray 51)).cell? ⟨w.heap.size, 2, none⟩ = some (.slice none 0 0) := A.cell 2
 have a3 : ((w.alloc (.cells (rsL e l r false).toArray 51)).alloc (.cells (rsL e l r false).toArray 51)).cell? ⟨w.heap.size, 3, none⟩ = some (.slice none 0 0) := A.cell 3
 have a14 : ((w.alloc (.cells (rsL e l r false).toArray 51)).alloc (.cells (rsL e l r false).toArray 51)).cell? ⟨w.heap.size, 14, none⟩ = some (.bool false) := A.cell 14
 have c0 : ((w.alloc (.cells (rsL e l r false).toArray 51)).alloc (.cells (rsL e l r false).toArray 51)).cell? ⟨w.heap.size + 1, 0, none⟩ = some (.int .i64 e) := C.cell 0
 have c1 : ((w.alloc (.cells (rsL e l r false).toArray 51)).alloc (.cells (rsL e l r false).toArray 51)).cell? ⟨w.heap.size + 1, 1, none⟩ = some (.int .u64 0) := C.cell 1
 have c2 : ((w.alloc (.cells (rsL e l r false).toArray 51)).alloc (.cells (rsL e l r false).toArray 51)).cell? ⟨w.heap.size + 1, 2, none⟩ = some (.slice none 0 0) := C.cell 2
 have c3 : ((w.alloc (.cells (rsL e l r false).toArray 51)).alloc (.cells (rsL e l r false).toArray 51)).cell? ⟨w.heap.size + 1, 3, none⟩ = some (.slice none 0 0) := C.cell 3
 have c14 : ((w.alloc (.cells (rsL e l r false).toArray 51)).alloc (.cells (rsL e l r false).toArray 51)).cell? ⟨w.heap.size + 1, 14, none⟩ = some (.bool false) := C.cell 14
 have cv := conv0 ((w.alloc (.cells (rsL e l r false).toArray 51)).alloc (.cells (rsL e l r false).toArray 51))
 clear b1 A C
 skip
 go_enter Tryz.func29, Tryz.ntmps29
 go_wp2_with (first | (focus ((with_reducible refine wpList_load_w ?_ 29 (.tmp 37) ?_ ?_ l1.out ?_); rotate_left; rfl; rfl; rotate_left; rfl)) | (focus ((with_reducible refine wpList_load_w ?_ 29 (.tmp 39) ?_ ?_ l2.out ?_); rotate_left; rfl; rfl; rotate_left; rfl)) | (focus ((with_reducible refine wpList_load_w ?_ 29 (.tmp 44) ?_ ?_ l3.out ?_); rotate_left; rfl; rfl; rotate_left; rfl)) | (focus ((with_reducible refine wpList_load_w ?_ 29 (.tmp 46) ?_ ?_ l4.out ?_); rotate_left; rfl; rfl; rotate_left; rfl)) | (focus ((with_reducible refine wpList_bin_w ?_ .neq 29 (.tmp 38) (.tmp 40) 29 ?_ ?_ ?_ N1.out ?_); rotate_left; rfl; rfl; rfl; rotate_left; rfl)) | (focus ((with_reducible refine wpList_bin_w ?_ .neq 29 (.tmp 45) (.tmp 47) 29 ?_ ?_ ?_ N2.out ?_); rotate_left; rfl; rfl; rfl; rotate_left; rfl)))
 go_loop [5] (fun i => i = .int .i64 0) (fun _ => 0)
 case atStart => rfl
 case round =>
   subst hrel
   go_wp2
   go_ret
   exact ⟨rfl, B.out⟩

theorem sameRes_any (e : Int) (l r : Rf) (f : Bool) (w : World) : Calls Tryz.prog 29 #[.agg (rsL e l r f).toArray, .agg (rsL e l r f).toArray] w fun e' w' => e' = .returned (.bool true) ∧ Below w.heap.size w w' := by
 cases f with
 | true => exact sameRes_true e l r w
 | false => exact sameRes_false e l r w

/-- A step, all its fields. -/
def gsL (k : Int) (r : Rf) (q x y : Int) (r1 r2 : Rf) (oa oo e : Int) (l r3 : Rf) (f : Bool) : List Value := [.int .i64 k, .int .i64 r.id, .int .i64 r.rk, .int .u64 r.kn, .int .i64 r.ln, .int .u64 r.bt] ++ akL q x y r1 r2 oa oo ++ rsL e l r3 f

set_option maxHeartbeats 2000000 in
set_option maxRecDepth 100000 in
theorem sameStep_g (k : Int) (r : Rf) (q x y : Int) (r1 r2 : Rf) (oa oo e : Int) (l r3 : Rf) (f : Bool) (w : World) : Calls Tryz.prog 8 #[.agg (gsL k r q x y r1 r2 oa oo e l r3 f).toArray, .agg (gsL k r q x y r1 r2 oa oo e l r3 f).toArray] w fun e' w' => e' = .returned (.bool true) ∧ Below w.heap.size w w' := by
 have b1 := ((Below.refl w.heap.size w).alloc (Nat.le_refl _) (.cells (gsL k r q x y r1 r2 oa oo e l r3 f).toArray 53)).alloc (by simp) (.cells (gsL k r q x y r1 r2 oa oo e l r3 f).toArray 53)
 have A := (IsB.new w (gsL k r q x y r1 r2 oa oo e l r3 f).toArray 53).below ((Below.refl _ _).alloc (Nat.le_refl _) (.cells (gsL k r q x y r1 r2 oa oo e l r3 f).toArray 53))
 have C := IsB.new (w.alloc (.cells (gsL k r q x y r1 r2 oa oo e l r3 f).toArray 53)) (gsL k r q x y r1 r2 oa oo e l r3 f).toArray 53
 rw [World.size_alloc] at C
 have B := hide b1
 have l1 := hide (load_mid A 1 29 r.cs _ rfl Tryz.underlying29 rfl (by kernel_rfl))
 have l2 := hide (load_mid C 1 29 r.cs _ rfl Tryz.underlying29 rfl (by kernel_rfl))
 have l3 := hide (load_mid A 6 47 (akL q x y r1 r2 oa oo) _ rfl Tryz.underlying47 rfl (by kernel_rfl))
 have l4 := hide (load_mid C 6 47 (akL q x y r1 r2 oa oo) _ rfl Tryz.underlying47 rfl (by kernel_rfl))
 have l5 := hide (load_mid A 21 51 (rsL e l r3 f) _ rfl Tryz.underlying51 rfl (by kernel_rfl))
 have l6 := hide (load_mid C 21 51 (rsL e l r3 f) _ rfl Tryz.underlying51 rfl (by kernel_rfl))
 have N1 := hide (eqr_r r ((w.alloc (.cells (gsL k r q x y r1 r2 oa oo e l r3 f).toArray 53)).alloc (.cells (gsL k r q x y r1 r2 oa oo e l r3 f).toArray 53)))
 have N2 := hide (eqa q x y r1 r2 oa oo ((w.alloc (.cells (gsL k r q x y r1 r2 oa oo e l r3 f).toArray 53)).alloc (.cells (gsL k r q x y r1 r2 oa oo e l r3 f).toArray 53)))
 have SR := hide (sameRes_any e l r3 f ((w.alloc (.cells (gsL k r q x y r1 r2 oa oo e l r3 f).toArray 53)).alloc (.cells (gsL k r q x y r1 r2 oa oo e l r3 f).toArray 53)))
 have a0 : ((w.alloc (.cells (gsL k r q x y r1 r2 oa oo e l r3 f).toArray 53)).alloc (.cells (gsL k r q x y r1 r2 oa oo e l r3 f).toArray 53)).cell? ⟨w.heap.size, 0, none⟩ = some (.int .i64 k) := A.cell 0
 have c0 : ((w.alloc (.cells (gsL k r q x y r1 r2 oa oo e l r3 f).toArray 53)).alloc (.cells (gsL k r q x y r1 r2 oa oo e l r3 f).toArray 53)).cell? ⟨w.heap.size + 1, 0, none⟩ = some (.int .i64 k) := C.cell 0
 clear b1 A C
 go_enter Tryz.func8, Tryz.ntmps8
 go_wp2_with (first | (focus ((with_reducible refine wpList_load_w ?_ 29 (.tmp 11) ?_ ?_ l1.out ?_); rotate_left; rfl; rfl; rotate_left; rfl)) | (focus ((with_reducible refine wpList_load_w ?_ 29 (.tmp 13) ?_ ?_ l2.out ?_); rotate_left; rfl; rfl; rotate_left; rfl)) | (focus ((with_reducible refine wpList_load_w ?_ 47 (.tmp 18) ?_ ?_ l3.out ?_); rotate_left; rfl; rfl; rotate_left; rfl)) | (focus ((with_reducible refine wpList_load_w ?_ 47 (.tmp 20) ?_ ?_ l4.out ?_); rotate_left; rfl; rfl; rotate_left; rfl)) | (focus ((with_reducible refine wpList_load_w ?_ 51 (.tmp 25) ?_ ?_ l5.out ?_); rotate_left; rfl; rfl; rotate_left; rfl)) | (focus ((with_reducible refine wpList_load_w ?_ 51 (.tmp 27) ?_ ?_ l6.out ?_); rotate_left; rfl; rfl; rotate_left; rfl)) | (focus ((with_reducible refine wpList_bin_w ?_ .eql 29 (.tmp 12) (.tmp 14) 29 ?_ ?_ ?_ N1.out ?_); rotate_left; rfl; rfl; rfl; rotate_left; rfl)) | (focus ((with_reducible refine wpList_bin_w ?_ .eql 47 (.tmp 19) (.tmp 21) 47 ?_ ?_ ?_ N2.out ?_); rotate_left; rfl; rfl; rfl; rotate_left; rfl)))
 refine SR.out.mono ?_
 rintro e' w3 ⟨rfl, hb⟩
 replace B := hide (B.out.trans (hb.mono B.out.size))
 clear hb SR
 go_wp2
 go_ret
 exact ⟨rfl, B.out⟩

theorem sp_gs (k : Int) (r : Rf) (q x y e : Int) (l r2 : Rf) (f : Bool) : spL k r q x y e l r2 f = gsL k r q x y zr zr 0 0 e l r2 f := rfl
theorem st_gs (k : Int) (r : Rf) (q x y : Int) (r1 r2 : Rf) (oa oo e : Int) (l r3 : Rf) : stL k r q x y r1 r2 oa oo e l r3 = gsL k r q x y r1 r2 oa oo e l r3 false := rfl

end Go.Proofs.YtokehogcenjefaaGreatDoor

/- The document's removal in memory: end, sought, leave, left. -/
namespace Go.Proofs.YtokehogcenjefaaGreatDoor
open Go.RowKit Go.Maps Go.ChangeMaps

/-- The document's removal: its settings; whom it found; whether it asks for the mark; whether it marked; whether it is over; its result. -/
structure Dm where
 h : Int
 st : Rf
 k : Int
 oa : Int
 oo : Int
 x : Rf
 ak : Bool
 md : Bool
 ov : Bool
 e : Int
/-- Its cells; s is its search, u its unsplice. -/
def dmL (D : Dm) (s u : Value) : List Value := [.int .i64 D.h, .int .i64 D.st.id, .int .i64 D.st.rk, .int .u64 D.st.kn, .int .i64 D.st.ln, .int .u64 D.st.bt, .int .u64 D.k, .int .i64 D.oa, .int .i64 D.oo, s, .int .i64 D.x.id, .int .i64 D.x.rk, .int .u64 D.x.kn, .int .i64 D.x.ln, .int .u64 D.x.bt, .bool D.ak, .bool D.md, u, .bool D.ov, .int .i64 D.e]
section
variable {w : World} {b : Nat} {D : Dm} {s u : Value} (I : IsB w b (dmL D s u).toArray 58)
include I
theorem ml_x : (Instr.loadAt 29 (.pointer (some ⟨b, 10, none⟩))).run Tryz.prog w = .ok (.agg #[.int .i64 D.x.id, .int .i64 D.x.rk, .int .u64 D.x.kn, .int .i64 D.x.ln, .int .u64 D.x.bt]) w := load_mid I 10 _ [.int .i64 D.x.id, .int .i64 D.x.rk, .int .u64 D.x.kn, .int .i64 D.x.ln, .int .u64 D.x.bt] _ rfl Tryz.underlying29 rfl (by kernel_rfl)
theorem ml_xv : (Instr.loadAt 27 (.pointer (some ⟨b, 13, none⟩))).run Tryz.prog w = .ok (.agg #[.int .i64 (D.x.ln), .int .u64 (D.x.bt)]) w := load_mid I 13 _ [.int .i64 D.x.ln, .int .u64 D.x.bt] _ rfl Tryz.underlying27 rfl (by kernel_rfl)
theorem ml_own : (Instr.loadAt 31 (.pointer (some ⟨b, 7, none⟩))).run Tryz.prog w = .ok (.agg #[.int .i64 D.oa, .int .i64 D.oo]) w := load_mid I 7 _ [.int .i64 D.oa, .int .i64 D.oo] _ rfl Tryz.underlying31 rfl (by kernel_rfl)
theorem mc_s : w.cell? ⟨b, 9, none⟩ = some s := I.cell 9
theorem mc_ak : w.cell? ⟨b, 15, none⟩ = some (.bool D.ak) := I.cell 15
theorem mc_md : w.cell? ⟨b, 16, none⟩ = some (.bool D.md) := I.cell 16
theorem mc_u : w.cell? ⟨b, 17, none⟩ = some u := I.cell 17
theorem mc_ov : w.cell? ⟨b, 18, none⟩ = some (.bool D.ov) := I.cell 18
theorem mc_e : w.cell? ⟨b, 19, none⟩ = some (.int .i64 D.e) := I.cell 19
theorem ms_x (r : Rf) : ∃ w', (Instr.storeAt 29 (.pointer (some ⟨b, 10, none⟩)) (.agg r.cells)).run Tryz.prog w = .ok () w' ∧ IsB w' b (dmL { D with x := r } s u).toArray 58 ∧ Kp [b] w w' :=
 store_mid I 10 _ r.cs (by simp [dmL, Rf.cs]) (by kernel_rfl) (by simp [Rf.cs, Value.oneCell'])
theorem ms_ak (f : Bool) : ∃ w', (Instr.storeAt 4 (.pointer (some ⟨b, 15, none⟩)) (.bool f)).run Tryz.prog w = .ok () w' ∧ IsB w' b (dmL { D with ak := f } s u).toArray 58 ∧ Kp [b] w w' :=
 store_one I 15 _ (.bool f) (by simp [dmL]) (by kernel_rfl) rfl rfl
theorem ms_md (f : Bool) : ∃ w', (Instr.storeAt 4 (.pointer (some ⟨b, 16, none⟩)) (.bool f)).run Tryz.prog w = .ok () w' ∧ IsB w' b (dmL { D with md := f } s u).toArray 58 ∧ Kp [b] w w' :=
 store_one I 16 _ (.bool f) (by simp [dmL]) (by kernel_rfl) rfl rfl
theorem ms_u (a : Addr) : ∃ w', (Instr.storeAt 56 (.pointer (some ⟨b, 17, none⟩)) (.pointer (some a))).run Tryz.prog w = .ok () w' ∧ IsB w' b (dmL D s (.pointer (some a))).toArray 58 ∧ Kp [b] w w' :=
 store_one I 17 _ (.pointer (some a)) (by simp [dmL]) (by kernel_rfl) rfl rfl
theorem ms_ov (f : Bool) : ∃ w', (Instr.storeAt 4 (.pointer (some ⟨b, 18, none⟩)) (.bool f)).run Tryz.prog w = .ok () w' ∧ IsB w' b (dmL { D with ov := f } s u).toArray 58 ∧ Kp [b] w w' :=
 store_one I 18 _ (.bool f) (by simp [dmL]) (by kernel_rfl) rfl rfl
theorem ms_e (k : Int) : ∃ w', (Instr.storeAt 37 (.pointer (some ⟨b, 19, none⟩)) (.int .i64 k)).run Tryz.prog w = .ok () w' ∧ IsB w' b (dmL { D with e := k } s u).toArray 58 ∧ Kp [b] w w' :=
 store_one I 19 _ (.int .i64 k) (by simp [dmL]) (by kernel_rfl) rfl rfl
end

set_option maxHeartbeats 2000000 in
set_option maxRecDepth 100000 in
theorem dmend_any (b : Nat) (D : Dm) (s u : Value) (k : Int) (w : World) (I : IsB w b (dmL D s u).toArray 58) : Calls Tryz.prog 34 #[.pointer (some ⟨b, 0, none⟩), .int .i64 k] w fun e' w' => e' = .returned (.tuple #[]) ∧ IsB w' b (dmL { D with ov := true, e := k } s u).toArray 58 ∧ Kp [b] w w' := by
 obtain ⟨w1, hs1, I1, k1⟩ := ms_ov I true
 obtain ⟨w2, hs2, I2, k2⟩ := ms_e I1 k
 have HS1 := hide hs1
 have HS2 := hide hs2
 have F := hide (And.intro I2 (k1.tr k2))
 clear hs1 hs2 I1 I2 k1 k2
 go_enter Tryz.func34, Tryz.ntmps34
 go_wp2_with (first | (focus ((with_reducible refine wpList_store_w ?_ 4 (.tmp 8) (.const (.bool true)) ?_ ?_ ?_ HS1.out ?_); rotate_left; rfl; rfl; rfl; rotate_left; rfl)) | (focus ((with_reducible refine wpList_store_w ?_ 37 (.tmp 10) (.tmp 6) ?_ ?_ ?_ HS2.out ?_); rotate_left; rfl; rfl; rfl; rotate_left; rfl)))
 refine bodyPost_end (results_none rfl _ _ _) rfl ?_
 exact ⟨rfl, F.out⟩

/-- What the document does with a search's result. -/
def Dm.sought (D : Dm) (e : Int) (r : Rf) (f : Bool) : Dm := if e ≠ 0 then { D with ov := true, e := e } else if f = false then { D with ov := true, e := 101 } else { D with x := r, ak := true }

theorem zres_info : (Tryz.prog.info? 51).map (·.size) = some 15 := by kernel_rfl
theorem store_res2 (w : World) (e : Int) (l r : Rf) (f : Bool) : (Instr.storeAt 51 (.pointer (some ⟨w.heap.size, 0, none⟩)) (.agg (rsL e l r f).toArray)).run Tryz.prog (w.alloc (.cells (rsL 0 zr zr false).toArray 51)) = .ok () (w.alloc (.cells (rsL e l r f).toArray 51)) :=
 run_storeAt_new w 51 _ _ zres_info rfl (by kernel_rfl)

set_option maxHeartbeats 2000000 in
set_option maxRecDepth 100000 in
theorem dsought_err (b q base : Nat) (D : Dm) (u : Value) (S : Sk) (st : Rf) (L : List Wl) (he : S.e ≠ 0) (w : World) (I : IsB w b (dmL D (.pointer (some ⟨q, 0, none⟩)) u).toArray 58) (X : Dk w q base S st L) : Calls Tryz.prog 39 #[.pointer (some ⟨b, 0, none⟩)] w fun e' w' => e' = .returned (.tuple #[]) ∧ IsB w' b (dmL { D with ov := true, e := S.e } (.pointer (some ⟨q, 0, none⟩)) u).toArray 58 ∧ Kp [b] w w' := by
 obtain ⟨to, v, -, XD⟩ := X
 have c9 := mc_s I
 have LR := hide (q_res XD.blk)
 clear XD
 generalize S.e = e0 at *
 generalize S.rl = l0 at *
 generalize S.rr = r0 at *
 generalize S.fd = f0 at *
 have SS := hide (store_res2 w e0 l0 r0 f0)
 have b1 := gb1 w (.cells (rsL e0 l0 r0 f0).toArray 51)
 have Q := IsB.new w (rsL e0 l0 r0 f0).toArray 51
 have I0 := I.below b1
 have K0 : Kp [b] w (w.alloc (.cells (rsL e0 l0 r0 f0).toArray 51)) := Kp.of_below b1
 have ce : (w.alloc (.cells (rsL e0 l0 r0 f0).toArray 51)).cell? ⟨w.heap.size, 0, none⟩ = some (.int .i64 e0) := Q.cell 0
 have cf : (w.alloc (.cells (rsL e0 l0 r0 f0).toArray 51)).cell? ⟨w.heap.size, 14, none⟩ = some (.bool f0) := Q.cell 14
 have d1 : decide (e0 = 0) = false := decide_eq_false he
 go_enter Tryz.func39, Tryz.ntmps39
 go_wp2_with (first | (focus ((with_reducible refine wpList_load_w ?_ 51 (.tmp 8) ?_ ?_ LR.out ?_); rotate_left; rfl; rfl; rotate_left; rfl)) | (focus ((with_reducible refine wpList_store_w ?_ 51 (.tmp 2) (.tmp 9) ?_ ?_ ?_ SS.out ?_); rotate_left; rfl; rfl; rfl; rotate_left; rfl)))
 refine (dmend_any b D _ u e0 _ I0).mono ?_
 rintro e' w2 ⟨rfl, I2, k2⟩
 go_wp2
 refine bodyPost_end (results_none rfl _ _ _) rfl ?_
 exact ⟨rfl, I2, K0.tr k2⟩

set_option maxHeartbeats 2000000 in
set_option maxRecDepth 100000 in
theorem dsought_none (b q base : Nat) (D : Dm) (u : Value) (S : Sk) (st : Rf) (L : List Wl) (he : S.e = 0) (hf : S.fd = false) (w : World) (I : IsB w b (dmL D (.pointer (some ⟨q, 0, none⟩)) u).toArray 58) (X : Dk w q base S st L) : Calls Tryz.prog 39 #[.pointer (some ⟨b, 0, none⟩)] w fun e' w' => e' = .returned (.tuple #[]) ∧ IsB w' b (dmL { D with ov := true, e := 101 } (.pointer (some ⟨q, 0, none⟩)) u).toArray 58 ∧ Kp [b] w w' := by
 obtain ⟨to, v, -, XD⟩ := X
 have c9 := mc_s I
 have LR := hide (q_res XD.blk)
 clear XD
 generalize S.e = e0 at *
 generalize S.rl = l0 at *
 generalize S.rr = r0 at *
 generalize S.fd = f0 at *
 subst he hf
 have SS := hide (store_res2 w 0 l0 r0 false)
 have b1 := gb1 w (.cells (rsL 0 l0 r0 false).toArray 51)
 have Q := IsB.new w (rsL 0 l0 r0 false).toArray 51
 have I0 := I.below b1
 have K0 : Kp [b] w (w.alloc (.cells (rsL 0 l0 r0 false).toArray 51)) := Kp.of_below b1
 have ce : (w.alloc (.cells (rsL 0 l0 r0 false).toArray 51)).cell? ⟨w.heap.size, 0, none⟩ = some (.int .i64 0) := Q.cell 0
 have cf : (w.alloc (.cells (rsL 0 l0 r0 false).toArray 51)).cell? ⟨w.heap.size, 14, none⟩ = some (.bool false) := Q.cell 14
 go_enter Tryz.func39, Tryz.ntmps39
 go_wp2_with (first | (focus ((with_reducible refine wpList_load_w ?_ 51 (.tmp 8) ?_ ?_ LR.out ?_); rotate_left; rfl; rfl; rotate_left; rfl)) | (focus ((with_reducible refine wpList_store_w ?_ 51 (.tmp 2) (.tmp 9) ?_ ?_ ?_ SS.out ?_); rotate_left; rfl; rfl; rfl; rotate_left; rfl)))
 refine (dmend_any b D _ u 101 _ I0).mono ?_
 rintro e' w2 ⟨rfl, I2, k2⟩
 go_wp2
 refine bodyPost_end (results_none rfl _ _ _) rfl ?_
 exact ⟨rfl, I2, K0.tr k2⟩

set_option maxHeartbeats 2000000 in
set_option maxRecDepth 100000 in
theorem dsought_found (b q base : Nat) (D : Dm) (u : Value) (S : Sk) (st : Rf) (L : List Wl) (he : S.e = 0) (hf : S.fd = true) (w : World) (I : IsB w b (dmL D (.pointer (some ⟨q, 0, none⟩)) u).toArray 58) (X : Dk w q base S st L) : Calls Tryz.prog 39 #[.pointer (some ⟨b, 0, none⟩)] w fun e' w' => e' = .returned (.tuple #[]) ∧ IsB w' b (dmL { D with x := S.rr, ak := true } (.pointer (some ⟨q, 0, none⟩)) u).toArray 58 ∧ Kp [b] w w' := by
 obtain ⟨to, v, -, XD⟩ := X
 have c9 := mc_s I
 have LR := hide (q_res XD.blk)
 clear XD
 generalize S.e = e0 at *
 generalize S.rl = l0 at *
 generalize S.rr = r0 at *
 generalize S.fd = f0 at *
 subst he hf
 have SS := hide (store_res2 w 0 l0 r0 true)
 have b1 := gb1 w (.cells (rsL 0 l0 r0 true).toArray 51)
 have Q := IsB.new w (rsL 0 l0 r0 true).toArray 51
 have I0 := I.below b1
 have K0 : Kp [b] w (w.alloc (.cells (rsL 0 l0 r0 true).toArray 51)) := Kp.of_below b1
 have ce : (w.alloc (.cells (rsL 0 l0 r0 true).toArray 51)).cell? ⟨w.heap.size, 0, none⟩ = some (.int .i64 0) := Q.cell 0
 have cf : (w.alloc (.cells (rsL 0 l0 r0 true).toArray 51)).cell? ⟨w.heap.size, 14, none⟩ = some (.bool true) := Q.cell 14
 have LX : Hid ((Instr.loadAt 29 (.pointer (some ⟨w.heap.size, 9, none⟩))).run Tryz.prog (w.alloc (.cells (rsL 0 l0 r0 true).toArray 51)) = .ok (.agg r0.cells) (w.alloc (.cells (rsL 0 l0 r0 true).toArray 51))) := load_mid Q 9 _ r0.cs _ rfl Tryz.underlying29 rfl (by kernel_rfl)
 obtain ⟨w3, hs3, I3, k3⟩ := ms_x I0 r0
 obtain ⟨w4, hs4, I4, k4⟩ := ms_ak I3 true
 have HS3 := hide hs3
 have HS4 := hide hs4
 have F := hide (And.intro I4 (K0.tr (k3.tr k4)))
 clear hs3 hs4 I3 I4 k3 k4 Q I0 K0
 go_enter Tryz.func39, Tryz.ntmps39
 go_wp2_with (first | (focus ((with_reducible refine wpList_load_w ?_ 51 (.tmp 8) ?_ ?_ LR.out ?_); rotate_left; rfl; rfl; rotate_left; rfl)) | (focus ((with_reducible refine wpList_store_w ?_ 51 (.tmp 2) (.tmp 9) ?_ ?_ ?_ SS.out ?_); rotate_left; rfl; rfl; rfl; rotate_left; rfl)) | (focus ((with_reducible refine wpList_load_w ?_ 29 (.tmp 12) ?_ ?_ LX.out ?_); rotate_left; rfl; rfl; rotate_left; rfl)) | (focus ((with_reducible refine wpList_store_w ?_ 29 (.tmp 15) (.tmp 13) ?_ ?_ ?_ HS3.out ?_); rotate_left; rfl; rfl; rfl; rotate_left; rfl)) | (focus ((with_reducible refine wpList_store_w ?_ 4 (.tmp 17) (.const (.bool true)) ?_ ?_ ?_ HS4.out ?_); rotate_left; rfl; rfl; rfl; rotate_left; rfl)))
 refine bodyPost_end (results_none rfl _ _ _) rfl ?_
 exact ⟨rfl, F.out⟩

set_option maxHeartbeats 2000000 in
set_option maxRecDepth 100000 in
theorem dsought_any (b q base : Nat) (D : Dm) (u : Value) (S : Sk) (st : Rf) (L : List Wl) (w : World) (I : IsB w b (dmL D (.pointer (some ⟨q, 0, none⟩)) u).toArray 58) (X : Dk w q base S st L) : Calls Tryz.prog 39 #[.pointer (some ⟨b, 0, none⟩)] w fun e' w' => e' = .returned (.tuple #[]) ∧ IsB w' b (dmL (D.sought S.e S.rr S.fd) (.pointer (some ⟨q, 0, none⟩)) u).toArray 58 ∧ Kp [b] w w' := by
 unfold Dm.sought
 by_cases he : S.e ≠ 0
 · rw [if_pos he]
   exact dsought_err b q base D u S st L he w I X
 rw [if_neg he]
 have he0 : S.e = 0 := Decidable.not_not.1 he
 by_cases hf : S.fd = false
 · rw [if_pos hf]
   exact dsought_none b q base D u S st L he0 hf w I X
 · rw [if_neg hf]
   exact dsought_found b q base D u S st L he0 (by simpa using hf) w I X

end Go.Proofs.YtokehogcenjefaaGreatDoor

/- The document's removal: leave, left. -/
namespace Go.Proofs.YtokehogcenjefaaGreatDoor
open Go.RowKit Go.Maps Go.ChangeMaps

/-- A list is left, if it may be. -/
def Dm.leave (D : Dm) (x y : Int) : Dm := if umayC x y D.x D.oa D.oo = true then D else { D with ov := true, e := 0 }
theorem ld_vecc {w : World} {b : Nat} {x y : Int} (I : IsB w b #[.int .i64 x, .int .u64 y] 27) : (Instr.loadAt 27 (.pointer (some ⟨b, 0, none⟩))).run Tryz.prog w = .ok (.agg #[.int .i64 (x), .int .u64 (y)]) w := load_mid (cs := [.int .i64 x, .int .u64 y]) I 0 _ [.int .i64 x, .int .u64 y] _ rfl Tryz.underlying27 rfl (by kernel_rfl)
theorem DsAt.bel {w w' : World} {b : Nat} {S : Us} (h : DsAt w b S) (hb : Below w.heap.size w w') : DsAt w' b S := IsB.below h hb

set_option maxHeartbeats 4000000 in
set_option maxRecDepth 100000 in
theorem dleave_bad (b : Nat) (D : Dm) (s u : Value) (x y : Int) (hx : 0 ≤ D.x.bt) (hy : 0 ≤ y) (hm : umayC x y D.x D.oa D.oo = false) (w : World) (I : IsB w b (dmL D s u).toArray 58) : Calls Tryz.prog 35 #[.pointer (some ⟨b, 0, none⟩), (.agg #[.int .i64 (x), .int .u64 (y)])] w fun e' w' => e' = .returned (.tuple #[]) ∧ IsB w' b (dmL { D with ov := true, e := 0 } s u).toArray 58 ∧ Kp [b] w w' := by
 have mixed : Tryz.prog.follows .mixedOrders = true := by kernel_rfl
 have b1 := gb1 w (.cells #[.int .i64 x, .int .u64 y] 27)
 have I1 := I.below b1
 have Q1 := IsB.new w #[.int .i64 x, .int .u64 y] 27
 have K0 : Hid (Kp [b] w (w.alloc (.cells #[.int .i64 x, .int .u64 y] 27))) := Kp.of_below b1
 have hbA : b < w.heap.size := I.lt
 have hWA : w.heap.size ≤ (w.alloc (.cells #[.int .i64 x, .int .u64 y] 27)).heap.size := b1.size
 go_enter Tryz.func35, Tryz.ntmps35
 go_wp2_with fail
 have dr := (Below.refl (w.alloc (.cells #[.int .i64 x, .int .u64 y] 27)).heap.size (w.alloc (.cells #[.int .i64 x, .int .u64 y] 27))).drew
 have I2 := hide (I1.below dr)
 have Q2 := hide (Q1.below dr)
 have K1 := hide (K0.out.drew)
 have hWA2 : w.heap.size ≤ (w.alloc (.cells #[.int .i64 x, .int .u64 y] 27)).drew.heap.size := Nat.le_trans hWA dr.size
 clear dr I1 Q1 b1 K0 I hWA
 obtain ⟨A, hA⟩ : ∃ A, w.heap.size = A := ⟨_, rfl⟩
 rw [hA] at Q2 hWA2 hbA ⊢
 refine regionL 17 (fun w' => IsB w' b (dmL D s u).toArray 58 ∧ IsB w' A #[.int .i64 x, .int .u64 y] 27) mixed ⟨I2.out, Q2.out⟩ (fun hHeld => ?_)
 generalize (w.alloc (.cells #[.int .i64 x, .int .u64 y] 27)).drew = WD at *
 refine pkT (v := (.agg #[.int .i64 (x), .int .u64 (y)])) 0 (some 7) rfl rfl ?_ (by assumption) ?_
 · intro w' hSw
   obtain ⟨q0, q1⟩ := hSw
   exact exec_load rfl rfl (ld_vecc q1)
 try simp only [Act.put, zqa, zqb, zqc]
 refine pkA (v := ?_) 1 (some 8) rfl rfl ?_ (by assumption) ?_
 rotate_left
 · intro w'
   go_simp
   try with_reducible rfl
 try simp only [Act.put, zqa, zqb, zqc]
 refine pkA (v := ?_) 2 (some 9) rfl rfl ?_ (by assumption) ?_
 rotate_left
 · intro w'
   go_simp
   try with_reducible rfl
 try simp only [Act.put, zqa, zqb, zqc]
 refine pkA (v := ?_) 3 (some 10) rfl rfl ?_ (by assumption) ?_
 rotate_left
 · intro w'
   go_simp
   try with_reducible rfl
 try simp only [Act.put, zqa, zqb, zqc]
 refine pkT (v := .agg #[.int .i64 D.x.id, .int .i64 D.x.rk, .int .u64 D.x.kn, .int .i64 D.x.ln, .int .u64 D.x.bt]) 4 (some 11) rfl rfl ?_ (by assumption) ?_
 · intro w' hSw
   obtain ⟨q0, q1⟩ := hSw
   exact exec_load rfl rfl (ml_x q0)
 try simp only [Act.put, zqa, zqb, zqc]
 refine pkA (v := ?_) 5 (some 12) rfl rfl ?_ (by assumption) ?_
 rotate_left
 · intro w'
   go_simp
   try with_reducible rfl
 try simp only [Act.put, zqa, zqb, zqc]
 refine pkA (v := ?_) 6 (some 13) rfl rfl ?_ (by assumption) ?_
 rotate_left
 · intro w'
   go_simp
   try with_reducible rfl
 try simp only [Act.put, zqa, zqb, zqc]
 refine pkA (v := ?_) 7 (some 14) rfl rfl ?_ (by assumption) ?_
 rotate_left
 · intro w'
   go_simp
   try with_reducible rfl
 try simp only [Act.put, zqa, zqb, zqc]
 refine pkA (v := ?_) 8 (some 15) rfl rfl ?_ (by assumption) ?_
 rotate_left
 · intro w'
   go_simp
   try with_reducible rfl
 try simp only [Act.put, zqa, zqb, zqc]
 refine pkT (v := .agg #[.int .i64 D.oa, .int .i64 D.oo]) 9 (some 16) rfl rfl ?_ (by assumption) ?_
 · intro w' hSw
   obtain ⟨q0, q1⟩ := hSw
   exact exec_load rfl rfl (ml_own q0)
 try simp only [Act.put, zqa, zqb, zqc]
 refine pkA (v := .agg (ucfL x y D.x D.oa D.oo).toArray) 10 (some 17) rfl rfl ?_ (by assumption) ?_
 · intro w'
   go_simp
   try rfl
 try simp only [Act.put, zqa, zqb, zqc]
 refine oneL (i := 11) (by kernel_rfl) rfl (fun K hK => ?_)
 go_simp
 refine (Un.rnew_bad x y D.x D.oa D.oo hx hy hm WD).mono ?_
 rintro e1 w3 ⟨rfl, hb⟩
 have I3 := hide (I2.out.below hb)
 have Q3 := hide (Q2.out.below hb)
 have K3 := hide (K1.out.tr (Kp.of_below hb))
 clear hb
 refine hK.out _ _ ?_ ?_
 · exact ⟨I3.out, Q3.out⟩
 clear hK K
 try simp only [Act.put, zqa, zqb, zqc]
 clear hHeld
 have hHeld : (fun w' => IsB w' b (dmL D s u).toArray 58 ∧ IsB w' A #[.int .i64 x, .int .u64 y] 27) w3 := ⟨I3.out, Q3.out⟩
 refine pkA (v := ?_) 12 (some 6) rfl rfl ?_ (by assumption) ?_
 rotate_left
 · intro w'
   go_simp
   try with_reducible rfl
 try simp only [Act.put, zqa, zqb, zqc]
 refine pkA (v := .pointer none) 13 (some 19) rfl rfl ?_ (by assumption) ?_
 · intro w'
   go_simp
   try rfl
 try simp only [Act.put, zqa, zqb, zqc]
 refine pkA (v := .int .i64 140) 14 (some 20) rfl rfl ?_ (by assumption) ?_
 · intro w'
   go_simp
   try rfl
 try simp only [Act.put, zqa, zqb, zqc]
 refine pkA (v := ?_) 15 (some 4) rfl rfl ?_ (by assumption) ?_
 rotate_left
 · intro w'
   go_simp
   try with_reducible rfl
 try simp only [Act.put, zqa, zqb, zqc]
 refine pkA (v := ?_) 16 (some 5) rfl rfl ?_ (by assumption) ?_
 rotate_left
 · intro w'
   go_simp
   try with_reducible rfl
 try simp only [Act.put, zqa, zqb, zqc]
 refine doneL (by kernel_rfl) ?_ _
 clear hHeld
 go_wp2_with fail
 refine (dmend_any b D s u 0 w3 I3.out).mono ?_
 rintro e2 w4 ⟨rfl, I4, k4⟩
 have K4 := K3.out.tr k4
 go_wp2
 refine bodyPost_ret (results_none rfl _ _ _) rfl ?_
 exact ⟨rfl, I4, K4⟩

set_option maxHeartbeats 4000000 in
set_option maxRecDepth 100000 in
theorem dleave_ok (b : Nat) (D : Dm) (s u : Value) (x y : Int) (hx : 0 ≤ D.x.bt) (hy : 0 ≤ y) (hm : umayC x y D.x D.oa D.oo = true) (w : World) (I : IsB w b (dmL D s u).toArray 58) : Calls Tryz.prog 35 #[.pointer (some ⟨b, 0, none⟩), (.agg #[.int .i64 (x), .int .u64 (y)])] w fun e' w' => ∃ p, e' = .returned (.tuple #[]) ∧ IsB w' b (dmL D s (.pointer (some ⟨p, 0, none⟩))).toArray 58 ∧ DsAt w' p (newD x y D.x D.oa D.oo) ∧ w.heap.size ≤ p ∧ Kp [b] w w' := by
 have mixed : Tryz.prog.follows .mixedOrders = true := by kernel_rfl
 have b1 := gb1 w (.cells #[.int .i64 x, .int .u64 y] 27)
 have I1 := I.below b1
 have Q1 := IsB.new w #[.int .i64 x, .int .u64 y] 27
 have K0 : Hid (Kp [b] w (w.alloc (.cells #[.int .i64 x, .int .u64 y] 27))) := Kp.of_below b1
 have hbA : b < w.heap.size := I.lt
 have hWA : w.heap.size ≤ (w.alloc (.cells #[.int .i64 x, .int .u64 y] 27)).heap.size := b1.size
 go_enter Tryz.func35, Tryz.ntmps35
 go_wp2_with fail
 have dr := (Below.refl (w.alloc (.cells #[.int .i64 x, .int .u64 y] 27)).heap.size (w.alloc (.cells #[.int .i64 x, .int .u64 y] 27))).drew
 have I2 := hide (I1.below dr)
 have Q2 := hide (Q1.below dr)
 have K1 := hide (K0.out.drew)
 have hWA2 : w.heap.size ≤ (w.alloc (.cells #[.int .i64 x, .int .u64 y] 27)).drew.heap.size := Nat.le_trans hWA dr.size
 clear dr I1 Q1 b1 K0 I hWA
 obtain ⟨A, hA⟩ : ∃ A, w.heap.size = A := ⟨_, rfl⟩
 rw [hA] at Q2 hWA2 hbA ⊢
 refine regionL 17 (fun w' => IsB w' b (dmL D s u).toArray 58 ∧ IsB w' A #[.int .i64 x, .int .u64 y] 27) mixed ⟨I2.out, Q2.out⟩ (fun hHeld => ?_)
 generalize (w.alloc (.cells #[.int .i64 x, .int .u64 y] 27)).drew = WD at *
 refine pkT (v := (.agg #[.int .i64 (x), .int .u64 (y)])) 0 (some 7) rfl rfl ?_ (by assumption) ?_
 · intro w' hSw
   obtain ⟨q0, q1⟩ := hSw
   exact exec_load rfl rfl (ld_vecc q1)
 try simp only [Act.put, zqa, zqb, zqc]
 refine pkA (v := ?_) 1 (some 8) rfl rfl ?_ (by assumption) ?_
 rotate_left
 · intro w'
   go_simp
   try with_reducible rfl
 try simp only [Act.put, zqa, zqb, zqc]
 refine pkA (v := ?_) 2 (some 9) rfl rfl ?_ (by assumption) ?_
 rotate_left
 · intro w'
   go_simp
   try with_reducible rfl
 try simp only [Act.put, zqa, zqb, zqc]
 refine pkA (v := ?_) 3 (some 10) rfl rfl ?_ (by assumption) ?_
 rotate_left
 · intro w'
   go_simp
   try with_reducible rfl
 try simp only [Act.put, zqa, zqb, zqc]
 refine pkT (v := .agg #[.int .i64 D.x.id, .int .i64 D.x.rk, .int .u64 D.x.kn, .int .i64 D.x.ln, .int .u64 D.x.bt]) 4 (some 11) rfl rfl ?_ (by assumption) ?_
 · intro w' hSw
   obtain ⟨q0, q1⟩ := hSw
   exact exec_load rfl rfl (ml_x q0)
 try simp only [Act.put, zqa, zqb, zqc]
 refine pkA (v := ?_) 5 (some 12) rfl rfl ?_ (by assumption) ?_
 rotate_left
 · intro w'
   go_simp
   try with_reducible rfl
 try simp only [Act.put, zqa, zqb, zqc]
 refine pkA (v := ?_) 6 (some 13) rfl rfl ?_ (by assumption) ?_
 rotate_left
 · intro w'
   go_simp
   try with_reducible rfl
 try simp only [Act.put, zqa, zqb, zqc]
 refine pkA (v := ?_) 7 (some 14) rfl rfl ?_ (by assumption) ?_
 rotate_left
 · intro w'
   go_simp
   try with_reducible rfl
 try simp only [Act.put, zqa, zqb, zqc]
 refine pkA (v := ?_) 8 (some 15) rfl rfl ?_ (by assumption) ?_
 rotate_left
 · intro w'
   go_simp
   try with_reducible rfl
 try simp only [Act.put, zqa, zqb, zqc]
 refine pkT (v := .agg #[.int .i64 D.oa, .int .i64 D.oo]) 9 (some 16) rfl rfl ?_ (by assumption) ?_
 · intro w' hSw
   obtain ⟨q0, q1⟩ := hSw
   exact exec_load rfl rfl (ml_own q0)
 try simp only [Act.put, zqa, zqb, zqc]
 refine pkA (v := .agg (ucfL x y D.x D.oa D.oo).toArray) 10 (some 17) rfl rfl ?_ (by assumption) ?_
 · intro w'
   go_simp
   try rfl
 try simp only [Act.put, zqa, zqb, zqc]
 refine oneL (i := 11) (by kernel_rfl) rfl (fun K hK => ?_)
 go_simp
 refine (Un.rnew_ok x y D.x D.oa D.oo hx hy hm WD).mono ?_
 rintro e1 w3 ⟨p, rfl, X3', h3', hb⟩
 have X3 := hide X3'
 have h3 := hide h3'
 clear X3' h3'
 have I3 := hide (I2.out.below hb)
 have Q3 := hide (Q2.out.below hb)
 have K3 := hide (K1.out.tr (Kp.of_below hb))
 clear hb
 refine hK.out _ _ ?_ ?_
 · exact ⟨I3.out, Q3.out⟩
 clear hK K
 try simp only [Act.put, zqa, zqb, zqc]
 clear hHeld
 have hHeld : (fun w' => IsB w' b (dmL D s u).toArray 58 ∧ IsB w' A #[.int .i64 x, .int .u64 y] 27) w3 := ⟨I3.out, Q3.out⟩
 refine pkA (v := ?_) 12 (some 6) rfl rfl ?_ (by assumption) ?_
 rotate_left
 · intro w'
   go_simp
   try with_reducible rfl
 try simp only [Act.put, zqa, zqb, zqc]
 refine pkA (v := .pointer (some ⟨p, 0, none⟩)) 13 (some 19) rfl rfl ?_ (by assumption) ?_
 · intro w'
   go_simp
   try rfl
 try simp only [Act.put, zqa, zqb, zqc]
 refine pkA (v := .int .i64 0) 14 (some 20) rfl rfl ?_ (by assumption) ?_
 · intro w'
   go_simp
   try rfl
 try simp only [Act.put, zqa, zqb, zqc]
 refine pkA (v := ?_) 15 (some 4) rfl rfl ?_ (by assumption) ?_
 rotate_left
 · intro w'
   go_simp
   try with_reducible rfl
 try simp only [Act.put, zqa, zqb, zqc]
 refine pkA (v := ?_) 16 (some 5) rfl rfl ?_ (by assumption) ?_
 rotate_left
 · intro w'
   go_simp
   try with_reducible rfl
 try simp only [Act.put, zqa, zqb, zqc]
 refine doneL (by kernel_rfl) ?_ _
 clear hHeld
 obtain ⟨w4, hs4, I4, k4⟩ := ms_u I3.out ⟨p, 0, none⟩
 have HS4 := hide hs4
 have hpb : p ≠ b := by have := h3.out; omega
 have F : Hid (IsB w4 b (dmL D s (.pointer (some ⟨p, 0, none⟩))).toArray 58 ∧ DsAt w4 p (newD x y D.x D.oa D.oo) ∧ A ≤ p ∧ Kp [b] w w4) := ⟨I4, IsB.kp X3.out k4 (by simpa using hpb), by have := h3.out; omega, K3.out.tr k4⟩
 clear hs4 I4 k4 I2 Q2 I3 Q3 X3 K3
 go_wp2_with (first | (focus ((with_reducible refine wpList_store_w ?_ 56 (.tmp 28) (.tmp 26) ?_ ?_ ?_ HS4.out ?_); rotate_left; rfl; rfl; rfl; rotate_left; rfl)))
 refine bodyPost_end (results_none rfl _ _ _) rfl ?_
 first | exact ⟨p, rfl, F.out⟩ | exact ⟨rfl, p, F.out⟩

set_option maxHeartbeats 2000000 in
set_option maxRecDepth 100000 in
theorem dleave_any (b : Nat) (D : Dm) (s u : Value) (x y : Int) (hx : 0 ≤ D.x.bt) (hy : 0 ≤ y) (w : World) (I : IsB w b (dmL D s u).toArray 58) : Calls Tryz.prog 35 #[.pointer (some ⟨b, 0, none⟩), (.agg #[.int .i64 (x), .int .u64 (y)])] w fun e' w' => ∃ uv p, e' = .returned (.tuple #[]) ∧ IsB w' b (dmL (D.leave x y) s uv).toArray 58 ∧ (umayC x y D.x D.oa D.oo = true → uv = .pointer (some ⟨p, 0, none⟩) ∧ DsAt w' p (newD x y D.x D.oa D.oo)) ∧ w.heap.size ≤ p ∧ Kp [b] w w' := by
 unfold Dm.leave
 cases hm : umayC x y D.x D.oa D.oo
 · rw [if_neg (by decide)]
   refine (dleave_bad b D s u x y hx hy hm w I).mono ?_
   rintro e w1 ⟨rfl, I1, k1⟩
   exact ⟨u, w.heap.size, rfl, I1, fun c => by (cases c), Nat.le_refl _, k1⟩
 · rw [if_pos rfl]
   refine (dleave_ok b D s u x y hx hy hm w I).mono ?_
   rintro e w1 ⟨p, rfl, I1, X1, hp, k1⟩
   exact ⟨_, p, rfl, I1, fun _ => ⟨rfl, X1⟩, hp, k1⟩

/-- What the document does when a list is left. -/
def Dm.left (D : Dm) (U : Us) : Dm := if U.e ≠ 0 ∨ U.wl = 0 then { D with ov := true, e := 0 } else D.leave (U.wl - 1) ((pre U.wl.toNat U.wb.toNat (U.wl - 1).toNat : Nat) : Int)

set_option maxHeartbeats 2000000 in
set_option maxRecDepth 100000 in
theorem dleft_err (b u : Nat) (D : Dm) (s : Value) (U : Us) (he : U.e ≠ 0) (w : World) (I : IsB w b (dmL D s (.pointer (some ⟨u, 0, none⟩))).toArray 58) (X : DsAt w u U) : Calls Tryz.prog 37 #[.pointer (some ⟨b, 0, none⟩)] w fun e' w' => e' = .returned (.tuple #[]) ∧ IsB w' b (dmL { D with ov := true, e := 0 } s (.pointer (some ⟨u, 0, none⟩))).toArray 58 ∧ Kp [b] w w' := by
 have c17 := mc_u I
 have LW := hide (dld_w X)
 have b1 := gb1 w (.cells #[.int .i64 U.wl, .int .u64 U.wb] 27)
 have I0 := I.below b1
 have X0 : DsAt (w.alloc (.cells #[.int .i64 U.wl, .int .u64 U.wb] 27)) u U := DsAt.bel X b1
 have K0 : Kp [b] w (w.alloc (.cells #[.int .i64 U.wl, .int .u64 U.wb] 27)) := Kp.of_below b1
 have c17b := mc_u I0
 have c21 := dcl_e X0
 have d1 : decide (U.e = 0) = false := decide_eq_false he
 go_enter Tryz.func37, Tryz.ntmps37
 go_wp2_with (first | (focus ((with_reducible refine wpList_load_w ?_ 27 (.tmp 11) ?_ ?_ LW.out ?_); rotate_left; rfl; rfl; rotate_left; rfl)))
 refine (dmend_any b D s (.pointer (some ⟨u, 0, none⟩)) 0 _ I0).mono ?_
 rintro e w2 ⟨rfl, I2, k2⟩
 go_wp2
 refine bodyPost_ret (results_none rfl _ _ _) rfl ?_
 exact ⟨rfl, I2, K0.tr k2⟩

set_option maxHeartbeats 2000000 in
set_option maxRecDepth 100000 in
theorem dleft_zero (b u : Nat) (D : Dm) (s : Value) (U : Us) (he : U.e = 0) (hz : U.wl = 0) (w : World) (I : IsB w b (dmL D s (.pointer (some ⟨u, 0, none⟩))).toArray 58) (X : DsAt w u U) : Calls Tryz.prog 37 #[.pointer (some ⟨b, 0, none⟩)] w fun e' w' => e' = .returned (.tuple #[]) ∧ IsB w' b (dmL { D with ov := true, e := 0 } s (.pointer (some ⟨u, 0, none⟩))).toArray 58 ∧ Kp [b] w w' := by
 have c17 := mc_u I
 have LW := hide (dld_w X)
 rw [hz] at LW
 have b1 := gb1 w (.cells #[.int .i64 0, .int .u64 U.wb] 27)
 have I0 := I.below b1
 have X0 : DsAt (w.alloc (.cells #[.int .i64 0, .int .u64 U.wb] 27)) u U := DsAt.bel X b1
 have K0 : Kp [b] w (w.alloc (.cells #[.int .i64 0, .int .u64 U.wb] 27)) := Kp.of_below b1
 have c17b := mc_u I0
 have c21 := dcl_e X0
 rw [he] at c21
 go_enter Tryz.func37, Tryz.ntmps37
 go_wp2_with (first | (focus ((with_reducible refine wpList_load_w ?_ 27 (.tmp 11) ?_ ?_ LW.out ?_); rotate_left; rfl; rfl; rotate_left; rfl)))
 refine (dmend_any b D s (.pointer (some ⟨u, 0, none⟩)) 0 _ I0).mono ?_
 rintro e w2 ⟨rfl, I2, k2⟩
 go_wp2
 refine bodyPost_ret (results_none rfl _ _ _) rfl ?_
 exact ⟨rfl, I2, K0.tr k2⟩

set_option maxHeartbeats 2000000 in
set_option maxRecDepth 100000 in
theorem dleft_go (b u : Nat) (D : Dm) (s : Value) (U : Us) (he : U.e = 0) (hn : U.wl ≠ 0) (hx : 0 ≤ D.x.bt) (hrt : rt U.wl U.wb = true) (hlb : 0 ≤ U.wb) (w : World) (I : IsB w b (dmL D s (.pointer (some ⟨u, 0, none⟩))).toArray 58) (X : DsAt w u U) : Calls Tryz.prog 37 #[.pointer (some ⟨b, 0, none⟩)] w fun e' w' => ∃ uv p, e' = .returned (.tuple #[]) ∧ IsB w' b (dmL (D.leave (U.wl - 1) ((pre U.wl.toNat U.wb.toNat (U.wl - 1).toNat : Nat) : Int)) s uv).toArray 58 ∧ (umayC (U.wl - 1) ((pre U.wl.toNat U.wb.toNat (U.wl - 1).toNat : Nat) : Int) D.x D.oa D.oo = true → uv = .pointer (some ⟨p, 0, none⟩) ∧ DsAt w' p (newD (U.wl - 1) ((pre U.wl.toNat U.wb.toNat (U.wl - 1).toNat : Nat) : Int) D.x D.oa D.oo)) ∧ w.heap.size ≤ p ∧ Kp [b] w w' := by
 have c17 := mc_u I
 have LW := hide (dld_w X)
 have b1 := gb1 w (.cells #[.int .i64 U.wl, .int .u64 U.wb] 27)
 have I0 := I.below b1
 have X0 : DsAt (w.alloc (.cells #[.int .i64 U.wl, .int .u64 U.wb] 27)) u U := DsAt.bel X b1
 have K0 : Kp [b] w (w.alloc (.cells #[.int .i64 U.wl, .int .u64 U.wb] 27)) := Kp.of_below b1
 have c17b := mc_u I0
 have c21 := dcl_e X0
 rw [he] at c21
 have h32 := of_decide_eq_true hrt
 have hk0 : 0 ≤ U.wl - 1 := by omega
 have hk1 : U.wl - 1 ≤ U.wl := by omega
 have hw1 : IntKind.i64.wrap (U.wl - 1) = U.wl - 1 := wrap_pos _ (by omega) (by omega)
 have d9 : decide (U.wl = 0) = false := decide_eq_false hn
 obtain ⟨pv, hpv⟩ : ∃ pv : Int, ((pre U.wl.toNat U.wb.toNat (U.wl - 1).toNat : Nat) : Int) = pv := ⟨_, rfl⟩
 have hpv0 : Hid (0 ≤ pv) := by show 0 ≤ pv; rw [← hpv]; exact Int.natCast_nonneg _
 have PO : Hid (∀ w, Calls Tryz.prog 61 #[(.agg #[.int .i64 (U.wl), .int .u64 (U.wb)]), .int .i64 (U.wl - 1)] w fun e w' => e = .returned (.tuple #[(.agg #[.int .i64 (U.wl - 1), .int .u64 (pv)]), .int .i64 0]) ∧ Below w.heap.size w w') := fun w => by rw [← hpv]; exact rprefix_ok U.wl U.wb (U.wl - 1) hrt hlb hk0 hk1 w
 rw [hpv]
 clear hpv h32 hk0 hk1 hrt hlb
 go_enter Tryz.func37, Tryz.ntmps37
 go_wp2_with (first | (focus ((with_reducible refine wpList_load_w ?_ 27 (.tmp 11) ?_ ?_ LW.out ?_); rotate_left; rfl; rfl; rotate_left; rfl)))
 refine (PO.out _).mono ?_
 rintro e w2 ⟨rfl, hb⟩
 have I2 := I0.below hb
 have K2 := K0.tr (Kp.of_below hb)
 have b3 := gb1 w2 (.cells #[.int .i64 (U.wl - 1), .int .u64 pv] 27)
 have I3 := I2.below b3
 have K3 := K2.tr (Kp.of_below b3)
 clear hb b1 I0 X0 K0 c17b c21 LW X I2 K2 b3 PO
 go_wp2_with fail
 refine (dleave_any b D s (.pointer (some ⟨u, 0, none⟩)) (U.wl - 1) pv hx hpv0.out _ I3).mono ?_
 rintro e w4 ⟨uv, p, rfl, I4, X4, hp, k4⟩
 have hp2 : w.heap.size ≤ p := Nat.le_trans K3.size hp
 have K4 := K3.tr k4
 go_wp2
 refine bodyPost_end (results_none rfl _ _ _) rfl ?_
 exact ⟨uv, p, rfl, I4, X4, hp2, K4⟩

end Go.Proofs.YtokehogcenjefaaGreatDoor

/- The document's removal: Next, Tell, Wake. -/
namespace Go.Proofs.YtokehogcenjefaaGreatDoor
open Go.RowKit Go.Maps Go.ChangeMaps

theorem un_ne (a : Addr) (w : World) : (binOp .neq 56 (.pointer (some a)) (.pointer none)).run Tryz.prog w = .ok (.bool true) w := by kernel_rfl
theorem un_nn (w : World) : (binOp .neq 56 (.pointer none) (.pointer none)).run Tryz.prog w = .ok (.bool false) w := by kernel_rfl

set_option maxHeartbeats 2000000 in
set_option maxRecDepth 100000 in
theorem dmn_over (b : Nat) (D : Dm) (s u : Value) (ho : D.ov = true) (w : World) (I : IsB w b (dmL D s u).toArray 58) : Calls Tryz.prog 10 #[.pointer (some ⟨b, 0, none⟩)] w fun e' w' => e' = .returned (.agg (spL 3 zr 0 0 0 D.e zr zr false).toArray) ∧ Below w.heap.size w w' := by
 have b1 := gb1 w (.cells #[.int .i64 0, .int .i64 0, .int .i64 0, .int .u64 0, .int .i64 0, .int .u64 0, .int .i64 0, .int .i64 0, .int .u64 0, .int .i64 0, .int .i64 0, .int .u64 0, .int .i64 0, .int .u64 0, .int .i64 0, .int .i64 0, .int .u64 0, .int .i64 0, .int .u64 0, .int .i64 0, .int .i64 0, .int .i64 0, .int .u64 0, .slice none 0 0, .slice none 0 0, .int .i64 0, .int .i64 0, .int .u64 0, .int .i64 0, .int .u64 0, .int .i64 0, .int .i64 0, .int .u64 0, .int .i64 0, .int .u64 0, .bool false] 53)
 have I1 := I.below b1
 have c18 := mc_ov I1
 rw [ho] at c18
 have c19 := mc_e I1
 have SS := hide (store_step w (spL 3 zr 0 0 0 D.e zr zr false).toArray rfl (one_spL _ _ _ _ _ _ _ _ _))
 have bz := gb1 w (.cells (spL 3 zr 0 0 0 D.e zr zr false).toArray 53)
 have Q1 := hide (IsB.new w (spL 3 zr 0 0 0 D.e zr zr false).toArray 53)
 go_enter Tryz.func10, Tryz.ntmps10
 go_wp2_with (first | (focus ((with_reducible refine wpList_store_w ?_ 53 (.tmp 2) (.tmp 13) ?_ ?_ ?_ SS.out ?_); rotate_left; rfl; rfl; rfl; rotate_left; rfl)))
 refine ret_step (p := 2) Tryz.results10 rfl rfl Q1.out ?_
 exact ⟨rfl, bz⟩

set_option maxHeartbeats 2000000 in
set_option maxRecDepth 100000 in
theorem dmn_ask (b : Nat) (D : Dm) (s u : Value) (ho : D.ov = false) (ha : D.ak = true) (w : World) (I : IsB w b (dmL D s u).toArray 58) : Calls Tryz.prog 10 #[.pointer (some ⟨b, 0, none⟩)] w fun e' w' => e' = .returned (.agg (spL 1 D.x 9 0 0 0 zr zr false).toArray) ∧ Below w.heap.size w w' := by
 have b1 := gb1 w (.cells #[.int .i64 0, .int .i64 0, .int .i64 0, .int .u64 0, .int .i64 0, .int .u64 0, .int .i64 0, .int .i64 0, .int .u64 0, .int .i64 0, .int .i64 0, .int .u64 0, .int .i64 0, .int .u64 0, .int .i64 0, .int .i64 0, .int .u64 0, .int .i64 0, .int .u64 0, .int .i64 0, .int .i64 0, .int .i64 0, .int .u64 0, .slice none 0 0, .slice none 0 0, .int .i64 0, .int .i64 0, .int .u64 0, .int .i64 0, .int .u64 0, .int .i64 0, .int .i64 0, .int .u64 0, .int .i64 0, .int .u64 0, .bool false] 53)
 have I1 := I.below b1
 have c18 := mc_ov I1
 rw [ho] at c18
 have c15 := mc_ak I1
 rw [ha] at c15
 have LX := hide (ml_x I1)
 have SS := hide (store_step w (spL 1 D.x 9 0 0 0 zr zr false).toArray rfl (one_spL _ _ _ _ _ _ _ _ _))
 have bz := gb1 w (.cells (spL 1 D.x 9 0 0 0 zr zr false).toArray 53)
 have Q1 := hide (IsB.new w (spL 1 D.x 9 0 0 0 zr zr false).toArray 53)
 go_enter Tryz.func10, Tryz.ntmps10
 go_wp2_with (first | (focus ((with_reducible refine wpList_store_w ?_ 53 (.tmp 2) (.tmp 24) ?_ ?_ ?_ SS.out ?_); rotate_left; rfl; rfl; rfl; rotate_left; rfl)) | (focus ((with_reducible refine wpList_load_w ?_ 29 (.tmp 21) ?_ ?_ LX.out ?_); rotate_left; rfl; rfl; rotate_left; rfl)))
 refine ret_step (p := 2) Tryz.results10 rfl rfl Q1.out ?_
 exact ⟨rfl, bz⟩

set_option maxHeartbeats 2000000 in
set_option maxRecDepth 100000 in
theorem dmn_lists (b : Nat) (D : Dm) (s : Value) (u : Nat) (U : Us) (ho : D.ov = false) (ha : D.ak = false) (h1 : 1 ≤ U.pl) (h2 : U.pl ≤ 10) (w : World) (I : IsB w b (dmL D s (.pointer (some ⟨u, 0, none⟩))).toArray 58) (X : DsAt w u U) : Calls Tryz.prog 10 #[.pointer (some ⟨b, 0, none⟩)] w fun e' w' => e' = .returned (.agg U.step.toArray) ∧ Below w.heap.size w w' := by
 have b1 := gb1 w (.cells #[.int .i64 0, .int .i64 0, .int .i64 0, .int .u64 0, .int .i64 0, .int .u64 0, .int .i64 0, .int .i64 0, .int .u64 0, .int .i64 0, .int .i64 0, .int .u64 0, .int .i64 0, .int .u64 0, .int .i64 0, .int .i64 0, .int .u64 0, .int .i64 0, .int .u64 0, .int .i64 0, .int .i64 0, .int .i64 0, .int .u64 0, .slice none 0 0, .slice none 0 0, .int .i64 0, .int .i64 0, .int .u64 0, .int .i64 0, .int .u64 0, .int .i64 0, .int .i64 0, .int .u64 0, .int .i64 0, .int .u64 0, .bool false] 53)
 have I1 := I.below b1
 have Z1 := IsB.new w #[.int .i64 0, .int .i64 0, .int .i64 0, .int .u64 0, .int .i64 0, .int .u64 0, .int .i64 0, .int .i64 0, .int .u64 0, .int .i64 0, .int .i64 0, .int .u64 0, .int .i64 0, .int .u64 0, .int .i64 0, .int .i64 0, .int .u64 0, .int .i64 0, .int .u64 0, .int .i64 0, .int .i64 0, .int .i64 0, .int .u64 0, .slice none 0 0, .slice none 0 0, .int .i64 0, .int .i64 0, .int .u64 0, .int .i64 0, .int .u64 0, .int .i64 0, .int .i64 0, .int .u64 0, .int .i64 0, .int .u64 0, .bool false] 53
 have c18 := mc_ov I1
 rw [ho] at c18
 have c15 := mc_ak I1
 rw [ha] at c15
 have c17 := mc_u I1
 have nn := un_ne ⟨u, 0, none⟩ (w.alloc (.cells #[.int .i64 0, .int .i64 0, .int .i64 0, .int .u64 0, .int .i64 0, .int .u64 0, .int .i64 0, .int .i64 0, .int .u64 0, .int .i64 0, .int .i64 0, .int .u64 0, .int .i64 0, .int .u64 0, .int .i64 0, .int .i64 0, .int .u64 0, .int .i64 0, .int .u64 0, .int .i64 0, .int .i64 0, .int .i64 0, .int .u64 0, .slice none 0 0, .slice none 0 0, .int .i64 0, .int .i64 0, .int .u64 0, .int .i64 0, .int .u64 0, .int .i64 0, .int .i64 0, .int .u64 0, .int .i64 0, .int .u64 0, .bool false] 53))
 go_enter Tryz.func10, Tryz.ntmps10
 go_wp2_with fail
 refine (Un.dnext_any u U h1 h2 _ (DsAt.bel X b1)).mono ?_
 rintro e1 w1 ⟨rfl, hb⟩
 have Z2 := Z1.below hb
 obtain ⟨cs, hcs, h36, hone⟩ : ∃ cs : List Value, U.step = cs ∧ cs.length = 36 ∧ ∀ v ∈ cs, v.oneCell' = true := ⟨U.step, rfl, U.step_len h1 h2, U.step_one h1 h2⟩
 rw [hcs]
 obtain ⟨w2, hs2, I2, k2⟩ := store_all Z2 rfl cs h36 hone
 have HS2 := hide hs2
 have F : Hid (IsB w2 w.heap.size cs.toArray 53 ∧ Below w.heap.size w w2) := ⟨I2, (b1.trans (hb.mono b1.size)).trans (k2.to_below (Nat.le_trans b1.size hb.size) (by simp))⟩
 clear hs2 I2 k2 Z2 Z1 hb b1 hone
 go_wp2_with (first | (focus ((with_reducible refine wpList_store_w ?_ 53 (.tmp 2) (.tmp 35) ?_ ?_ ?_ HS2.out ?_); rotate_left; rfl; rfl; rfl; rotate_left; rfl)))
 refine ret_step (p := 2) Tryz.results10 (by simpa using h36) rfl F.out.1 ?_
 exact ⟨by rw [hcs], F.out.2⟩

set_option maxHeartbeats 2000000 in
set_option maxRecDepth 100000 in
theorem dmn_search (b : Nat) (D : Dm) (q base : Nat) (S : Sk) (st : Rf) (L : List Wl) (ho : D.ov = false) (ha : D.ak = false) (w : World) (I : IsB w b (dmL D (.pointer (some ⟨q, 0, none⟩)) (.pointer none)).toArray 58) (X : Dk w q base S st L) : Calls Tryz.prog 10 #[.pointer (some ⟨b, 0, none⟩)] w fun e' w' => e' = .returned (.agg S.step.toArray) ∧ Below w.heap.size w w' := by
 have b1 := gb1 w (.cells #[.int .i64 0, .int .i64 0, .int .i64 0, .int .u64 0, .int .i64 0, .int .u64 0, .int .i64 0, .int .i64 0, .int .u64 0, .int .i64 0, .int .i64 0, .int .u64 0, .int .i64 0, .int .u64 0, .int .i64 0, .int .i64 0, .int .u64 0, .int .i64 0, .int .u64 0, .int .i64 0, .int .i64 0, .int .i64 0, .int .u64 0, .slice none 0 0, .slice none 0 0, .int .i64 0, .int .i64 0, .int .u64 0, .int .i64 0, .int .u64 0, .int .i64 0, .int .i64 0, .int .u64 0, .int .i64 0, .int .u64 0, .bool false] 53)
 have I1 := I.below b1
 have Z1 := IsB.new w #[.int .i64 0, .int .i64 0, .int .i64 0, .int .u64 0, .int .i64 0, .int .u64 0, .int .i64 0, .int .i64 0, .int .u64 0, .int .i64 0, .int .i64 0, .int .u64 0, .int .i64 0, .int .u64 0, .int .i64 0, .int .i64 0, .int .u64 0, .int .i64 0, .int .u64 0, .int .i64 0, .int .i64 0, .int .i64 0, .int .u64 0, .slice none 0 0, .slice none 0 0, .int .i64 0, .int .i64 0, .int .u64 0, .int .i64 0, .int .u64 0, .int .i64 0, .int .i64 0, .int .u64 0, .int .i64 0, .int .u64 0, .bool false] 53
 have c18 := mc_ov I1
 rw [ho] at c18
 have c15 := mc_ak I1
 rw [ha] at c15
 have c17 := mc_u I1
 have nn := un_nn (w.alloc (.cells #[.int .i64 0, .int .i64 0, .int .i64 0, .int .u64 0, .int .i64 0, .int .u64 0, .int .i64 0, .int .i64 0, .int .u64 0, .int .i64 0, .int .i64 0, .int .u64 0, .int .i64 0, .int .u64 0, .int .i64 0, .int .i64 0, .int .u64 0, .int .i64 0, .int .u64 0, .int .i64 0, .int .i64 0, .int .i64 0, .int .u64 0, .slice none 0 0, .slice none 0 0, .int .i64 0, .int .i64 0, .int .u64 0, .int .i64 0, .int .u64 0, .int .i64 0, .int .i64 0, .int .u64 0, .int .i64 0, .int .u64 0, .bool false] 53))
 have c9 := mc_s I1
 go_enter Tryz.func10, Tryz.ntmps10
 go_wp2_with fail
 refine (dnext_any q base S st L _ (X.below b1)).mono ?_
 rintro e1 w1 ⟨rfl, hb⟩
 have Z2 := Z1.below hb
 obtain ⟨cs, hcs, h36, hone⟩ : ∃ cs : List Value, S.step = cs ∧ cs.length = 36 ∧ ∀ v ∈ cs, v.oneCell' = true := ⟨S.step, rfl, step_len S, step_one S⟩
 rw [hcs]
 obtain ⟨w2, hs2, I2, k2⟩ := store_all Z2 rfl cs h36 hone
 have HS2 := hide hs2
 have F : Hid (IsB w2 w.heap.size cs.toArray 53 ∧ Below w.heap.size w w2) := ⟨I2, (b1.trans (hb.mono b1.size)).trans (k2.to_below (Nat.le_trans b1.size hb.size) (by simp))⟩
 clear hs2 I2 k2 Z2 Z1 hb b1 hone
 go_wp2_with (first | (focus ((with_reducible refine wpList_store_w ?_ 53 (.tmp 2) (.tmp 40) ?_ ?_ ?_ HS2.out ?_); rotate_left; rfl; rfl; rfl; rotate_left; rfl)))
 refine ret_step (p := 2) Tryz.results10 (by simpa using h36) rfl F.out.1 ?_
 exact ⟨by rw [hcs], F.out.2⟩

set_option maxHeartbeats 2000000 in
set_option maxRecDepth 100000 in
theorem dmw_lists (b : Nat) (D : Dm) (s : Value) (u : Nat) (U : Us) (ho : D.ov = false) (ha : D.ak = false) (w : World) (I : IsB w b (dmL D s (.pointer (some ⟨u, 0, none⟩))).toArray 58) (X : DsAt w u U) : Calls Tryz.prog 15 #[.pointer (some ⟨b, 0, none⟩)] w fun e' w' => e' = .returned (.tuple #[]) ∧ IsB w' b (dmL D s (.pointer (some ⟨u, 0, none⟩))).toArray 58 ∧ DsAt w' u U.dwake ∧ Kp [u] w w' := by
 have hbu : b ≠ u := IsB.ne_t I X (by decide)
 have c18 := mc_ov I
 rw [ho] at c18
 have c15 := mc_ak I
 rw [ha] at c15
 have c17 := mc_u I
 have nn := un_ne ⟨u, 0, none⟩ w
 go_enter Tryz.func15, Tryz.ntmps15
 go_wp2_with fail
 refine (Un.dwake_any u U w X).mono ?_
 rintro e1 w1 ⟨rfl, X1, k1⟩
 have I1 := I.kp k1 (by simpa using hbu)
 go_wp2
 refine bodyPost_end (results_none rfl _ _ _) rfl ?_
 exact ⟨rfl, I1, X1, k1⟩

set_option maxHeartbeats 2000000 in
set_option maxRecDepth 100000 in
theorem dmw_over (b : Nat) (D : Dm) (s u : Value) (ho : D.ov = true) (w : World) (I : IsB w b (dmL D s u).toArray 58) : Calls Tryz.prog 15 #[.pointer (some ⟨b, 0, none⟩)] w fun e' w' => e' = .returned (.tuple #[]) ∧ w' = w := by
 have c18 := mc_ov I
 rw [ho] at c18
 go_enter Tryz.func15, Tryz.ntmps15
 go_wp2
 refine bodyPost_end (results_none rfl _ _ _) rfl ?_
 exact ⟨rfl, rfl⟩

set_option maxHeartbeats 2000000 in
set_option maxRecDepth 100000 in
theorem dmw_ask (b : Nat) (D : Dm) (s u : Value) (ho : D.ov = false) (ha : D.ak = true) (w : World) (I : IsB w b (dmL D s u).toArray 58) : Calls Tryz.prog 15 #[.pointer (some ⟨b, 0, none⟩)] w fun e' w' => e' = .returned (.tuple #[]) ∧ w' = w := by
 have c18 := mc_ov I
 rw [ho] at c18
 have c15 := mc_ak I
 rw [ha] at c15
 go_enter Tryz.func15, Tryz.ntmps15
 go_wp2
 refine bodyPost_end (results_none rfl _ _ _) rfl ?_
 exact ⟨rfl, rfl⟩

set_option maxHeartbeats 2000000 in
set_option maxRecDepth 100000 in
theorem dmw_none (b : Nat) (D : Dm) (s : Value) (ho : D.ov = false) (ha : D.ak = false) (w : World) (I : IsB w b (dmL D s (.pointer none)).toArray 58) : Calls Tryz.prog 15 #[.pointer (some ⟨b, 0, none⟩)] w fun e' w' => e' = .returned (.tuple #[]) ∧ w' = w := by
 have c18 := mc_ov I
 rw [ho] at c18
 have c15 := mc_ak I
 rw [ha] at c15
 have c17 := mc_u I
 have nn := un_nn w
 go_enter Tryz.func15, Tryz.ntmps15
 go_wp2
 refine bodyPost_end (results_none rfl _ _ _) rfl ?_
 exact ⟨rfl, rfl⟩

set_option maxHeartbeats 2000000 in
set_option maxRecDepth 100000 in
theorem dmt_over (b : Nat) (D : Dm) (s u : Value) (a : An) (ho : D.ov = true) (w : World) (I : IsB w b (dmL D s u).toArray 58) : Calls Tryz.prog 13 #[.pointer (some ⟨b, 0, none⟩), .agg (anL a).toArray] w fun e' w' => e' = .returned (.tuple #[]) ∧ Below w.heap.size w w' := by
 have b1 := gb1 w (.cells (anL a).toArray 62)
 have I1 := I.below b1
 have c18 := mc_ov I1
 rw [ho] at c18
 go_enter Tryz.func13, Tryz.ntmps13
 go_wp2
 refine bodyPost_ret (results_none rfl _ _ _) rfl ?_
 exact ⟨rfl, b1⟩

set_option maxHeartbeats 2000000 in
set_option maxRecDepth 100000 in
theorem dmt_dead (b : Nat) (D : Dm) (s u : Value) (a : An) (ho : D.ov = false) (hak : D.ak = true) (hk : a.k = 3) (w : World) (I : IsB w b (dmL D s u).toArray 58) : Calls Tryz.prog 13 #[.pointer (some ⟨b, 0, none⟩), .agg (anL a).toArray] w fun e' w' => e' = .returned (.tuple #[]) ∧ IsB w' b (dmL { D with ak := false, ov := true, e := 132 } s u).toArray 58 ∧ Kp [b] w w' := by
 have b1 := gb1 w (.cells (anL a).toArray 62)
 have I1 := I.below b1
 have Q1 := IsB.new w (anL a).toArray 62
 have K1 : Kp [b] w (w.alloc (.cells (anL a).toArray 62)) := Kp.of_below b1
 have c18 := mc_ov I1
 rw [ho] at c18
 have c15 := mc_ak I1
 rw [hak] at c15
 obtain ⟨w2, hs2, I2, k2⟩ := ms_ak I1 false
 have HS2 := hide hs2
 have Q2 := Q1.kp k2 (by have := I.lt; simp; omega)
 have K2 := K1.tr k2
 have c0 : w2.cell? ⟨w.heap.size, 0, none⟩ = some (.int .i64 a.k) := Q2.cell 0
 rw [hk] at c0
 clear hs2 I1 k2 Q1 K1
 go_enter Tryz.func13, Tryz.ntmps13
 go_wp2_with (first | (focus ((with_reducible refine wpList_store_w ?_ 4 (.tmp 31) (.const (.bool false)) ?_ ?_ ?_ HS2.out ?_); rotate_left; rfl; rfl; rfl; rotate_left; rfl)))
 refine (dmend_any b { D with ak := false } s u 132 _ I2).mono ?_
 rintro e w3 ⟨rfl, I3, k3⟩
 have K3 := K2.tr k3
 go_wp2
 refine bodyPost_ret (results_none rfl _ _ _) rfl ?_
 exact ⟨rfl, I3, K3⟩

set_option maxHeartbeats 2000000 in
set_option maxRecDepth 100000 in
theorem dmt_else (b : Nat) (D : Dm) (s u : Value) (a : An) (ho : D.ov = false) (hak : D.ak = true) (h1 : ¬a.k = 1) (h3 : ¬a.k = 3) (w : World) (I : IsB w b (dmL D s u).toArray 58) : Calls Tryz.prog 13 #[.pointer (some ⟨b, 0, none⟩), .agg (anL a).toArray] w fun e' w' => e' = .returned (.tuple #[]) ∧ IsB w' b (dmL { D with ak := false, ov := true, e := 101 } s u).toArray 58 ∧ Kp [b] w w' := by
 have b1 := gb1 w (.cells (anL a).toArray 62)
 have I1 := I.below b1
 have Q1 := IsB.new w (anL a).toArray 62
 have K1 : Kp [b] w (w.alloc (.cells (anL a).toArray 62)) := Kp.of_below b1
 have c18 := mc_ov I1
 rw [ho] at c18
 have c15 := mc_ak I1
 rw [hak] at c15
 obtain ⟨w2, hs2, I2, k2⟩ := ms_ak I1 false
 have HS2 := hide hs2
 have Q2 := Q1.kp k2 (by have := I.lt; simp; omega)
 have K2 := K1.tr k2
 have c0 : w2.cell? ⟨w.heap.size, 0, none⟩ = some (.int .i64 a.k) := Q2.cell 0
 have d1 : decide (a.k = 1) = false := decide_eq_false h1
 have d3 : decide (a.k = 3) = false := decide_eq_false h3
 have d4 : (a.k != 1) = true := by simpa using h1
 clear hs2 I1 k2 Q1 K1
 go_enter Tryz.func13, Tryz.ntmps13
 go_wp2_with (first | (focus ((with_reducible refine wpList_store_w ?_ 4 (.tmp 31) (.const (.bool false)) ?_ ?_ ?_ HS2.out ?_); rotate_left; rfl; rfl; rfl; rotate_left; rfl)))
 refine (dmend_any b { D with ak := false } s u 101 _ I2).mono ?_
 rintro e w3 ⟨rfl, I3, k3⟩
 have K3 := K2.tr k3
 go_wp2
 refine bodyPost_ret (results_none rfl _ _ _) rfl ?_
 exact ⟨rfl, I3, K3⟩

set_option maxHeartbeats 2000000 in
set_option maxRecDepth 100000 in
theorem dmt_yes (b : Nat) (D : Dm) (s u : Value) (a : An) (ho : D.ov = false) (hak : D.ak = true) (hk : a.k = 1) (hx : 0 ≤ D.x.bt) (w : World) (I : IsB w b (dmL D s u).toArray 58) : Calls Tryz.prog 13 #[.pointer (some ⟨b, 0, none⟩), .agg (anL a).toArray] w fun e' w' => ∃ uv p, e' = .returned (.tuple #[]) ∧ IsB w' b (dmL (({ D with ak := false, md := true } : Dm).leave D.x.ln D.x.bt) s uv).toArray 58 ∧ (umayC D.x.ln D.x.bt D.x D.oa D.oo = true → uv = .pointer (some ⟨p, 0, none⟩) ∧ DsAt w' p (newD D.x.ln D.x.bt D.x D.oa D.oo)) ∧ w.heap.size ≤ p ∧ Kp [b] w w' := by
 have b1 := gb1 w (.cells (anL a).toArray 62)
 have I1 := I.below b1
 have Q1 := IsB.new w (anL a).toArray 62
 have K1 : Kp [b] w (w.alloc (.cells (anL a).toArray 62)) := Kp.of_below b1
 have c18 := mc_ov I1
 rw [ho] at c18
 have c15 := mc_ak I1
 rw [hak] at c15
 obtain ⟨w2, hs2, I2, k2⟩ := ms_ak I1 false
 have HS2 := hide hs2
 have Q2 := Q1.kp k2 (by have := I.lt; simp; omega)
 have K2 := K1.tr k2
 have c0 : w2.cell? ⟨w.heap.size, 0, none⟩ = some (.int .i64 a.k) := Q2.cell 0
 rw [hk] at c0
 obtain ⟨w3, hs3, I3, k3⟩ := ms_md I2 true
 have HS3 := hide hs3
 have K3 := K2.tr k3
 have LX := hide (ml_xv I3)
 clear hs2 I1 k2 Q1 K1 hs3 k3 K2 Q2 I2
 go_enter Tryz.func13, Tryz.ntmps13
 go_wp2_with (first | (focus ((with_reducible refine wpList_store_w ?_ 4 (.tmp 31) (.const (.bool false)) ?_ ?_ ?_ HS2.out ?_); rotate_left; rfl; rfl; rfl; rotate_left; rfl)) | (focus ((with_reducible refine wpList_store_w ?_ 4 (.tmp 44) (.const (.bool true)) ?_ ?_ ?_ HS3.out ?_); rotate_left; rfl; rfl; rfl; rotate_left; rfl)) | (focus ((with_reducible refine wpList_load_w ?_ 27 (.tmp 49) ?_ ?_ LX.out ?_); rotate_left; rfl; rfl; rotate_left; rfl)))
 refine (dleave_any b ({ D with ak := false, md := true } : Dm) s u D.x.ln D.x.bt hx hx w3 I3).mono ?_
 rintro e w4 ⟨uv, p, rfl, I4, X4, hp, k4⟩
 have hp2 : w.heap.size ≤ p := Nat.le_trans K3.size hp
 have K4 := K3.tr k4
 go_wp2
 refine bodyPost_end (results_none rfl _ _ _) rfl ?_
 exact ⟨uv, p, rfl, I4, X4, hp2, K4⟩

end Go.Proofs.YtokehogcenjefaaGreatDoor

/- The document's removal: Tell where a machine is at hand; New. -/
namespace Go.Proofs.YtokehogcenjefaaGreatDoor
open Go.RowKit Go.Maps Go.ChangeMaps

set_option maxHeartbeats 2000000 in
set_option maxRecDepth 100000 in
theorem dleft_any (b u : Nat) (D : Dm) (s : Value) (U : Us) (hx : 0 ≤ D.x.bt) (hrt : rt U.wl U.wb = true) (hlb : 0 ≤ U.wb) (w : World) (I : IsB w b (dmL D s (.pointer (some ⟨u, 0, none⟩))).toArray 58) (X : DsAt w u U) : Calls Tryz.prog 37 #[.pointer (some ⟨b, 0, none⟩)] w fun e' w' => ∃ uv p, e' = .returned (.tuple #[]) ∧ IsB w' b (dmL (D.left U) s uv).toArray 58 ∧ (U.e = 0 → U.wl ≠ 0 → umayC (U.wl - 1) ((pre U.wl.toNat U.wb.toNat (U.wl - 1).toNat : Nat) : Int) D.x D.oa D.oo = true → uv = .pointer (some ⟨p, 0, none⟩) ∧ DsAt w' p (newD (U.wl - 1) ((pre U.wl.toNat U.wb.toNat (U.wl - 1).toNat : Nat) : Int) D.x D.oa D.oo)) ∧ w.heap.size ≤ p ∧ Kp [b] w w' := by
 unfold Dm.left
 by_cases he : U.e ≠ 0
 · rw [if_pos (Or.inl he)]
   refine (dleft_err b u D s U he w I X).mono ?_
   rintro e w1 ⟨rfl, I1, k1⟩
   exact ⟨_, w.heap.size, rfl, I1, fun c => absurd c he, Nat.le_refl _, k1⟩
 have he0 : U.e = 0 := Decidable.not_not.1 he
 by_cases hz : U.wl = 0
 · rw [if_pos (Or.inr hz)]
   refine (dleft_zero b u D s U he0 hz w I X).mono ?_
   rintro e w1 ⟨rfl, I1, k1⟩
   exact ⟨_, w.heap.size, rfl, I1, fun _ c => absurd hz c, Nat.le_refl _, k1⟩
 · rw [if_neg (by rw [not_or]; exact ⟨he, hz⟩)]
   refine (dleft_go b u D s U he0 hz hx hrt hlb w I X).mono ?_
   rintro e w1 ⟨uv, p, h1, h2, h3, h4, h5⟩
   exact ⟨uv, p, h1, h2, fun _ _ => h3, h4, h5⟩

set_option maxHeartbeats 4000000 in
set_option maxRecDepth 100000 in
theorem dmt_lists_end (b u : Nat) (D : Dm) (s : Value) (U : Us) (a : An) (ho : D.ov = false) (hak : D.ak = false) (h1 : 1 ≤ U.pl) (h2 : U.pl ≤ 10) (hp : (U.dtell a).pl = 10) (hx : 0 ≤ D.x.bt) (hrt : rt (U.dtell a).wl (U.dtell a).wb = true) (hlb : 0 ≤ (U.dtell a).wb) (w : World) (I : IsB w b (dmL D s (.pointer (some ⟨u, 0, none⟩))).toArray 58) (X : DsAt w u U) : Calls Tryz.prog 13 #[.pointer (some ⟨b, 0, none⟩), .agg (anL a).toArray] w fun e' w' => ∃ uv p, e' = .returned (.tuple #[]) ∧ IsB w' b (dmL (D.left (U.dtell a)) s uv).toArray 58 ∧ ((U.dtell a).e = 0 → (U.dtell a).wl ≠ 0 → umayC ((U.dtell a).wl - 1) ((pre (U.dtell a).wl.toNat (U.dtell a).wb.toNat ((U.dtell a).wl - 1).toNat : Nat) : Int) D.x D.oa D.oo = true → uv = .pointer (some ⟨p, 0, none⟩) ∧ DsAt w' p (newD ((U.dtell a).wl - 1) ((pre (U.dtell a).wl.toNat (U.dtell a).wb.toNat ((U.dtell a).wl - 1).toNat : Nat) : Int) D.x D.oa D.oo)) ∧ w.heap.size ≤ p ∧ Kp [b, u] w w' := by
 have mixed : Tryz.prog.follows .mixedOrders = true := by kernel_rfl
 have hbu : b ≠ u := IsB.ne_t I X (by decide)
 have b1 := gb1 w (.cells (anL a).toArray 62)
 have I1 := I.below b1
 have X1 : DsAt _ u U := DsAt.bel X b1
 have Q1 := IsB.new w (anL a).toArray 62
 have c18 := mc_ov I1
 rw [ho] at c18
 have c15 := mc_ak I1
 rw [hak] at c15
 have c17 := mc_u I1
 have nn := un_ne ⟨u, 0, none⟩ (w.alloc (.cells (anL a).toArray 62))
 have K0 : Hid (Kp [b, u] w (w.alloc (.cells (anL a).toArray 62))) := Kp.of_below b1
 go_enter Tryz.func13, Tryz.ntmps13
 go_wp2_with fail
 clear c18 c15 c17 nn
 have dr := (Below.refl (w.alloc (.cells (anL a).toArray 62)).heap.size (w.alloc (.cells (anL a).toArray 62))).drew
 have I2 := hide (I1.below dr)
 have Q2 := hide (Q1.below dr)
 have X2 := hide (DsAt.bel X1 dr)
 have K1 := hide (K0.out.drew)
 clear dr I1 Q1 X1 b1 K0 I X
 obtain ⟨A, hA⟩ : ∃ A, w.heap.size = A := ⟨_, rfl⟩
 rw [hA] at Q2 ⊢
 refine regionL 5 (fun w' => IsB w' b (dmL D s (.pointer (some ⟨u, 0, none⟩))).toArray 58 ∧ IsB w' A (anL a).toArray 62) mixed ⟨I2.out, Q2.out⟩ (fun hHeld => ?_)
 generalize (w.alloc (.cells (anL a).toArray 62)).drew = WD at *
 refine pkA (v := ?_) 0 (some 58) rfl rfl ?_ (by assumption) ?_
 rotate_left
 · intro w'
   go_simp
   try with_reducible rfl
 try simp only [Act.put, zqa, zqb, zqc]
 refine pkA (v := ?_) 1 (some 59) rfl rfl ?_ (by assumption) ?_
 rotate_left
 · intro w'
   go_simp
   try with_reducible rfl
 try simp only [Act.put, zqa, zqb, zqc]
 refine pkA (v := ?_) 2 (some 60) rfl rfl ?_ (by assumption) ?_
 rotate_left
 · intro w'
   go_simp
   try with_reducible rfl
 try simp only [Act.put, zqa, zqb, zqc]
 refine pkT (v := .pointer (some ⟨u, 0, none⟩)) 3 (some 61) rfl rfl ?_ (by assumption) ?_
 · intro w' hSw
   obtain ⟨q0, q1⟩ := hSw
   have yy : w'.cell? ⟨b, 17, none⟩ = some (.pointer (some ⟨u, 0, none⟩)) := mc_u q0
   go_simp
 try simp only [Act.put, zqa, zqb, zqc]
 refine pkT (v := .agg (anL a).toArray) 4 (some 62) rfl rfl ?_ (by assumption) ?_
 · intro w' hSw
   obtain ⟨q0, q1⟩ := hSw
   exact exec_load rfl rfl (ld_ans q1)
 try simp only [Act.put, zqa, zqb, zqc]
 refine lateL (i := 5) (by kernel_rfl) rfl (by decide) (by kernel_rfl) (fun K hK => ?_)
 go_simp
 refine (Un.dtell_any u U a h1 h2 WD X2.out).mono ?_
 rintro e1 w3 ⟨rfl, X3', K3'⟩
 have X3 := hide X3'
 have K3 := hide K3'
 clear X3' K3'
 refine hK.out _ _ ?_
 clear hK K
 try simp only [Act.put, zqa, zqb, zqc]
 refine doneL (by kernel_rfl) ?_ _
 clear hHeld
 have I3 := I2.out.kp K3.out (by simpa using hbu)
 have c17 := mc_u I3
 have c9 := dcl_at X3.out
 have K4 := hide (K1.out.tr (K3.out.mono (fun j hj => Or.inl (by simp at hj ⊢; omega))))
 clear I2 Q2 X2
 rw [hp] at c9
 go_wp2_with fail
 refine (dleft_any b u D s (U.dtell a) hx hrt hlb w3 I3 X3.out).mono ?_
 rintro e2 w4 ⟨uv, p, rfl, I4, X4, hpp, k4⟩
 have hsz := K4.out.size
 have hp2 : w.heap.size ≤ p := by omega
 have KF : Kp [b, u] w w4 := K4.out.tr (k4.mono (fun j hj => Or.inl (by simp at hj ⊢; omega)))
 go_wp2
 refine bodyPost_end (results_none rfl _ _ _) rfl ?_
 exact ⟨uv, p, rfl, I4, X4, hp2, KF⟩

set_option maxHeartbeats 4000000 in
set_option maxRecDepth 100000 in
theorem dmt_lists_on (b u : Nat) (D : Dm) (s : Value) (U : Us) (a : An) (ho : D.ov = false) (hak : D.ak = false) (h1 : 1 ≤ U.pl) (h2 : U.pl ≤ 10) (hp : ¬(U.dtell a).pl = 10) (w : World) (I : IsB w b (dmL D s (.pointer (some ⟨u, 0, none⟩))).toArray 58) (X : DsAt w u U) : Calls Tryz.prog 13 #[.pointer (some ⟨b, 0, none⟩), .agg (anL a).toArray] w fun e' w' => e' = .returned (.tuple #[]) ∧ IsB w' b (dmL D s (.pointer (some ⟨u, 0, none⟩))).toArray 58 ∧ DsAt w' u (U.dtell a) ∧ Kp [b, u] w w' := by
 have mixed : Tryz.prog.follows .mixedOrders = true := by kernel_rfl
 have hbu : b ≠ u := IsB.ne_t I X (by decide)
 have b1 := gb1 w (.cells (anL a).toArray 62)
 have I1 := I.below b1
 have X1 : DsAt _ u U := DsAt.bel X b1
 have Q1 := IsB.new w (anL a).toArray 62
 have c18 := mc_ov I1
 rw [ho] at c18
 have c15 := mc_ak I1
 rw [hak] at c15
 have c17 := mc_u I1
 have nn := un_ne ⟨u, 0, none⟩ (w.alloc (.cells (anL a).toArray 62))
 have K0 : Hid (Kp [b, u] w (w.alloc (.cells (anL a).toArray 62))) := Kp.of_below b1
 go_enter Tryz.func13, Tryz.ntmps13
 go_wp2_with fail
 clear c18 c15 c17 nn
 have dr := (Below.refl (w.alloc (.cells (anL a).toArray 62)).heap.size (w.alloc (.cells (anL a).toArray 62))).drew
 have I2 := hide (I1.below dr)
 have Q2 := hide (Q1.below dr)
 have X2 := hide (DsAt.bel X1 dr)
 have K1 := hide (K0.out.drew)
 clear dr I1 Q1 X1 b1 K0 I X
 obtain ⟨A, hA⟩ : ∃ A, w.heap.size = A := ⟨_, rfl⟩
 rw [hA] at Q2 ⊢
 refine regionL 5 (fun w' => IsB w' b (dmL D s (.pointer (some ⟨u, 0, none⟩))).toArray 58 ∧ IsB w' A (anL a).toArray 62) mixed ⟨I2.out, Q2.out⟩ (fun hHeld => ?_)
 generalize (w.alloc (.cells (anL a).toArray 62)).drew = WD at *
 refine pkA (v := ?_) 0 (some 58) rfl rfl ?_ (by assumption) ?_
 rotate_left
 · intro w'
   go_simp
   try with_reducible rfl
 try simp only [Act.put, zqa, zqb, zqc]
 refine pkA (v := ?_) 1 (some 59) rfl rfl ?_ (by assumption) ?_
 rotate_left
 · intro w'
   go_simp
   try with_reducible rfl
 try simp only [Act.put, zqa, zqb, zqc]
 refine pkA (v := ?_) 2 (some 60) rfl rfl ?_ (by assumption) ?_
 rotate_left
 · intro w'
   go_simp
   try with_reducible rfl
 try simp only [Act.put, zqa, zqb, zqc]
 refine pkT (v := .pointer (some ⟨u, 0, none⟩)) 3 (some 61) rfl rfl ?_ (by assumption) ?_
 · intro w' hSw
   obtain ⟨q0, q1⟩ := hSw
   have yy : w'.cell? ⟨b, 17, none⟩ = some (.pointer (some ⟨u, 0, none⟩)) := mc_u q0
   go_simp
 try simp only [Act.put, zqa, zqb, zqc]
 refine pkT (v := .agg (anL a).toArray) 4 (some 62) rfl rfl ?_ (by assumption) ?_
 · intro w' hSw
   obtain ⟨q0, q1⟩ := hSw
   exact exec_load rfl rfl (ld_ans q1)
 try simp only [Act.put, zqa, zqb, zqc]
 refine lateL (i := 5) (by kernel_rfl) rfl (by decide) (by kernel_rfl) (fun K hK => ?_)
 go_simp
 refine (Un.dtell_any u U a h1 h2 WD X2.out).mono ?_
 rintro e1 w3 ⟨rfl, X3', K3'⟩
 have X3 := hide X3'
 have K3 := hide K3'
 clear X3' K3'
 refine hK.out _ _ ?_
 clear hK K
 try simp only [Act.put, zqa, zqb, zqc]
 refine doneL (by kernel_rfl) ?_ _
 clear hHeld
 have I3 := I2.out.kp K3.out (by simpa using hbu)
 have c17 := mc_u I3
 have c9 := dcl_at X3.out
 have K4 := hide (K1.out.tr (K3.out.mono (fun j hj => Or.inl (by simp at hj ⊢; omega))))
 clear I2 Q2 X2
 have d10 : decide ((U.dtell a).pl = 10) = false := decide_eq_false hp
 go_wp2
 refine bodyPost_end (results_none rfl _ _ _) rfl ?_
 exact ⟨rfl, I3, X3.out, K4.out⟩

theorem Dk.kpb {w w' : World} {d base b : Nat} {S : Sk} {s : Rf} {L : List Wl} {cs : Array Value} {t : TypeId} (h : Dk w d base S s L) (k : Kp [b] w w') (I : IsB w b cs t) (h1 : t ≠ 105 := by decide) (h2 : t ≠ 179 := by decide) : Dk w' d base S s L := by
 obtain ⟨to, v, hto, X⟩ := h
 refine ⟨to, v, hto, X.le, X.blk.kp k ?_, X.row.kp k ?_, X.new⟩
 · simp only [List.mem_singleton]
   exact IsB.ne_t X.blk I (Ne.symm h1)
 · intro j hj hm
   simp only [List.mem_singleton] at hm
   obtain ⟨-, cur, hc⟩ := X.row.lt j hj
   exact IsB.ne_t (show IsB w j cur 179 from hc) I (Ne.symm h2) hm

set_option maxHeartbeats 4000000 in
set_option maxRecDepth 100000 in
theorem dmt_search_over (b q base : Nat) (D : Dm) (S : Sk) (st : Rf) (L : List Wl) (a : An) (ho : D.ov = false) (hak : D.ak = false) (P : Pre S L) (hp : (S.tell (L.map Wl.pr) a).1.ov = true) (w : World) (I : IsB w b (dmL D (.pointer (some ⟨q, 0, none⟩)) (.pointer none)).toArray 58) (X : Dk w q base S st L) : Calls Tryz.prog 13 #[.pointer (some ⟨b, 0, none⟩), .agg (anL a).toArray] w fun e' w' => e' = .returned (.tuple #[]) ∧ IsB w' b (dmL (D.sought (S.tell (L.map Wl.pr) a).1.e (S.tell (L.map Wl.pr) a).1.rr (S.tell (L.map Wl.pr) a).1.fd) (.pointer (some ⟨q, 0, none⟩)) (.pointer none)).toArray 58 ∧ Dk w' q base (S.tell (L.map Wl.pr) a).1 st (S.tellL L a) ∧ ∃ w1, Kd base w w1 ∧ Kp [b] w1 w' := by
 have mixed : Tryz.prog.follows .mixedOrders = true := by kernel_rfl
 have b1 := gb1 w (.cells (anL a).toArray 62)
 have I1 := I.below b1
 have X1 := X.below b1
 have Q1 := IsB.new w (anL a).toArray 62
 have c18 := mc_ov I1
 rw [ho] at c18
 have c15 := mc_ak I1
 rw [hak] at c15
 have c17 := mc_u I1
 have nn := un_nn (w.alloc (.cells (anL a).toArray 62))
 have K0 : Hid (Kd base w (w.alloc (.cells (anL a).toArray 62))) := Kd.of_below b1
 go_enter Tryz.func13, Tryz.ntmps13
 go_wp2_with fail
 clear c18 c15 c17 nn
 have dr := (Below.refl (w.alloc (.cells (anL a).toArray 62)).heap.size (w.alloc (.cells (anL a).toArray 62))).drew
 have I2 := hide (I1.below dr)
 have Q2 := hide (Q1.below dr)
 have X2 := hide (X1.below dr)
 have K1 := hide (K0.out.bel dr)
 clear dr I1 Q1 X1 b1 K0 I X
 obtain ⟨A, hA⟩ : ∃ A, w.heap.size = A := ⟨_, rfl⟩
 rw [hA] at Q2 ⊢
 refine regionL 5 (fun w' => IsB w' b (dmL D (.pointer (some ⟨q, 0, none⟩)) (.pointer none)).toArray 58 ∧ IsB w' A (anL a).toArray 62) mixed ⟨I2.out, Q2.out⟩ (fun hHeld => ?_)
 generalize (w.alloc (.cells (anL a).toArray 62)).drew = WD at *
 refine pkA (v := ?_) 0 (some 4) rfl rfl ?_ (by assumption) ?_
 rotate_left
 · intro w'
   go_simp
   try with_reducible rfl
 try simp only [Act.put, zqa, zqb, zqc]
 refine pkA (v := ?_) 1 (some 5) rfl rfl ?_ (by assumption) ?_
 rotate_left
 · intro w'
   go_simp
   try with_reducible rfl
 try simp only [Act.put, zqa, zqb, zqc]
 refine pkA (v := ?_) 2 (some 6) rfl rfl ?_ (by assumption) ?_
 rotate_left
 · intro w'
   go_simp
   try with_reducible rfl
 try simp only [Act.put, zqa, zqb, zqc]
 refine pkT (v := .pointer (some ⟨q, 0, none⟩)) 3 (some 7) rfl rfl ?_ (by assumption) ?_
 · intro w' hSw
   obtain ⟨q0, q1⟩ := hSw
   have yy : w'.cell? ⟨b, 9, none⟩ = some (.pointer (some ⟨q, 0, none⟩)) := mc_s q0
   go_simp
 try simp only [Act.put, zqa, zqb, zqc]
 refine pkT (v := .agg (anL a).toArray) 4 (some 8) rfl rfl ?_ (by assumption) ?_
 · intro w' hSw
   obtain ⟨q0, q1⟩ := hSw
   exact exec_load rfl rfl (ld_ans q1)
 try simp only [Act.put, zqa, zqb, zqc]
 refine lateL (i := 5) (by kernel_rfl) rfl (by decide) (by kernel_rfl) (fun K hK => ?_)
 go_simp
 refine (dtell_any q base S st L a P WD X2.out).mono ?_
 rintro e1 w3 ⟨rfl, X3', K3'⟩
 have X3 := hide X3'
 have K3 := hide K3'
 clear X3' K3'
 refine hK.out _ _ ?_
 clear hK K
 try simp only [Act.put, zqa, zqb, zqc]
 refine doneL (by kernel_rfl) ?_ _
 clear hHeld
 have I3 := I2.out.kd K3.out (by decide) (by decide)
 have c9 := mc_s I3
 obtain ⟨to, v, hto, XD⟩ := X3.out
 have c23 := c_ov XD.blk
 have K4 := hide (K1.out.tr K3.out)
 clear I2 Q2 X2 XD hto
 rw [hp] at c23
 go_wp2_with fail
 refine (dsought_any b q base D (.pointer none) (S.tell (L.map Wl.pr) a).1 st _ w3 I3 X3.out).mono ?_
 rintro e2 w4 ⟨rfl, I4, k4⟩
 have X4 := X3.out.kpb k4 I3
 go_wp2
 refine bodyPost_end (results_none rfl _ _ _) rfl ?_
 exact ⟨rfl, I4, X4, w3, K4.out, k4⟩

set_option maxHeartbeats 4000000 in
set_option maxRecDepth 100000 in
theorem dmt_search_on (b q base : Nat) (D : Dm) (S : Sk) (st : Rf) (L : List Wl) (a : An) (ho : D.ov = false) (hak : D.ak = false) (P : Pre S L) (hp : (S.tell (L.map Wl.pr) a).1.ov = false) (w : World) (I : IsB w b (dmL D (.pointer (some ⟨q, 0, none⟩)) (.pointer none)).toArray 58) (X : Dk w q base S st L) : Calls Tryz.prog 13 #[.pointer (some ⟨b, 0, none⟩), .agg (anL a).toArray] w fun e' w' => e' = .returned (.tuple #[]) ∧ IsB w' b (dmL D (.pointer (some ⟨q, 0, none⟩)) (.pointer none)).toArray 58 ∧ Dk w' q base (S.tell (L.map Wl.pr) a).1 st (S.tellL L a) ∧ Kd base w w' := by
 have mixed : Tryz.prog.follows .mixedOrders = true := by kernel_rfl
 have b1 := gb1 w (.cells (anL a).toArray 62)
 have I1 := I.below b1
 have X1 := X.below b1
 have Q1 := IsB.new w (anL a).toArray 62
 have c18 := mc_ov I1
 rw [ho] at c18
 have c15 := mc_ak I1
 rw [hak] at c15
 have c17 := mc_u I1
 have nn := un_nn (w.alloc (.cells (anL a).toArray 62))
 have K0 : Hid (Kd base w (w.alloc (.cells (anL a).toArray 62))) := Kd.of_below b1
 go_enter Tryz.func13, Tryz.ntmps13
 go_wp2_with fail
 clear c18 c15 c17 nn
 have dr := (Below.refl (w.alloc (.cells (anL a).toArray 62)).heap.size (w.alloc (.cells (anL a).toArray 62))).drew
 have I2 := hide (I1.below dr)
 have Q2 := hide (Q1.below dr)
 have X2 := hide (X1.below dr)
 have K1 := hide (K0.out.bel dr)
 clear dr I1 Q1 X1 b1 K0 I X
 obtain ⟨A, hA⟩ : ∃ A, w.heap.size = A := ⟨_, rfl⟩
 rw [hA] at Q2 ⊢
 refine regionL 5 (fun w' => IsB w' b (dmL D (.pointer (some ⟨q, 0, none⟩)) (.pointer none)).toArray 58 ∧ IsB w' A (anL a).toArray 62) mixed ⟨I2.out, Q2.out⟩ (fun hHeld => ?_)
 generalize (w.alloc (.cells (anL a).toArray 62)).drew = WD at *
 refine pkA (v := ?_) 0 (some 4) rfl rfl ?_ (by assumption) ?_
 rotate_left
 · intro w'
   go_simp
   try with_reducible rfl
 try simp only [Act.put, zqa, zqb, zqc]
 refine pkA (v := ?_) 1 (some 5) rfl rfl ?_ (by assumption) ?_
 rotate_left
 · intro w'
   go_simp
   try with_reducible rfl
 try simp only [Act.put, zqa, zqb, zqc]
 refine pkA (v := ?_) 2 (some 6) rfl rfl ?_ (by assumption) ?_
 rotate_left
 · intro w'
   go_simp
   try with_reducible rfl
 try simp only [Act.put, zqa, zqb, zqc]
 refine pkT (v := .pointer (some ⟨q, 0, none⟩)) 3 (some 7) rfl rfl ?_ (by assumption) ?_
 · intro w' hSw
   obtain ⟨q0, q1⟩ := hSw
   have yy : w'.cell? ⟨b, 9, none⟩ = some (.pointer (some ⟨q, 0, none⟩)) := mc_s q0
   go_simp
 try simp only [Act.put, zqa, zqb, zqc]
 refine pkT (v := .agg (anL a).toArray) 4 (some 8) rfl rfl ?_ (by assumption) ?_
 · intro w' hSw
   obtain ⟨q0, q1⟩ := hSw
   exact exec_load rfl rfl (ld_ans q1)
 try simp only [Act.put, zqa, zqb, zqc]
 refine lateL (i := 5) (by kernel_rfl) rfl (by decide) (by kernel_rfl) (fun K hK => ?_)
 go_simp
 refine (dtell_any q base S st L a P WD X2.out).mono ?_
 rintro e1 w3 ⟨rfl, X3', K3'⟩
 have X3 := hide X3'
 have K3 := hide K3'
 clear X3' K3'
 refine hK.out _ _ ?_
 clear hK K
 try simp only [Act.put, zqa, zqb, zqc]
 refine doneL (by kernel_rfl) ?_ _
 clear hHeld
 have I3 := I2.out.kd K3.out (by decide) (by decide)
 have c9 := mc_s I3
 obtain ⟨to, v, hto, XD⟩ := X3.out
 have c23 := c_ov XD.blk
 have K4 := hide (K1.out.tr K3.out)
 clear I2 Q2 X2 XD hto
 rw [hp] at c23
 go_wp2
 refine bodyPost_end (results_none rfl _ _ _) rfl ?_
 exact ⟨rfl, I3, X3.out, K4.out⟩

theorem Dk.base_to {w : World} {d base base2 : Nat} {S : Sk} {s : Rf} {L : List Wl} (h : Dk w d base S s L) (hb : base2 ≤ base) : Dk w d base2 S s L := by
 obtain ⟨to, v, hto, X⟩ := h
 exact ⟨to, v, hto, Nat.le_trans hb X.le, X.blk, X.row, fun k hk => Nat.le_trans hb (X.new k hk)⟩

set_option maxHeartbeats 4000000 in
set_option maxRecDepth 100000 in
theorem dmnew_bad (h : Int) (st : Rf) (k oa oo : Int) (hm : mayC h st 2 k = false) (w : World) : Calls Tryz.prog 7 #[.agg (rcL h st k oa oo).toArray] w fun e' w' => e' = .returned (.tuple #[.pointer none, .int .i64 160]) ∧ Below w.heap.size w w' := by
 have mixed : Tryz.prog.follows .mixedOrders = true := by kernel_rfl
 have b1 := gb1 w (.cells (rcL h st k oa oo).toArray 33)
 have I1 := IsB.new w (rcL h st k oa oo).toArray 33
 go_enter Tryz.func7, Tryz.ntmps7
 go_wp2_with fail
 have dr := (Below.refl (w.alloc (.cells (rcL h st k oa oo).toArray 33)).heap.size (w.alloc (.cells (rcL h st k oa oo).toArray 33))).drew
 have I2 := hide (I1.below dr)
 have B2 := hide (b1.trans (dr.mono b1.size))
 clear dr I1 b1
 obtain ⟨A, hA⟩ : ∃ A, w.heap.size = A := ⟨_, rfl⟩
 rw [hA] at I2
 refine regionL 14 (fun w' => IsB w' A (rcL h st k oa oo).toArray 33) mixed I2.out (fun hHeld => ?_)
 generalize (w.alloc (.cells (rcL h st k oa oo).toArray 33)).drew = WD at *
 refine pkA (v := ?_) 0 (some 7) rfl rfl ?_ (by assumption) ?_
 rotate_left
 · intro w'
   go_simp
   try with_reducible rfl
 try simp only [Act.put, zqa, zqb, zqc]
 refine pkT (v := .int .i64 h) 1 (some 8) rfl rfl ?_ (by assumption) ?_
 · intro w' hSw
   have q0 := hSw
   have yy : w'.cell? ⟨A, 0, none⟩ = some (.int .i64 h) := q0.cell 0
   go_simp
 try simp only [Act.put, zqa, zqb, zqc]
 refine pkA (v := ?_) 2 (some 9) rfl rfl ?_ (by assumption) ?_
 rotate_left
 · intro w'
   go_simp
   try with_reducible rfl
 try simp only [Act.put, zqa, zqb, zqc]
 refine pkT (v := .agg #[.int .i64 st.id, .int .i64 st.rk, .int .u64 st.kn, .int .i64 st.ln, .int .u64 st.bt]) 3 (some 10) rfl rfl ?_ (by assumption) ?_
 · intro w' hSw
   have q0 := hSw
   exact exec_load rfl rfl (load_mid q0 1 29 [.int .i64 st.id, .int .i64 st.rk, .int .u64 st.kn, .int .i64 st.ln, .int .u64 st.bt] _ rfl Tryz.underlying29 rfl (by kernel_rfl))
 try simp only [Act.put, zqa, zqb, zqc]
 refine pkA (v := ?_) 4 (some 11) rfl rfl ?_ (by assumption) ?_
 rotate_left
 · intro w'
   go_simp
   try with_reducible rfl
 try simp only [Act.put, zqa, zqb, zqc]
 refine pkT (v := .int .u64 k) 5 (some 12) rfl rfl ?_ (by assumption) ?_
 · intro w' hSw
   have q0 := hSw
   have yy : w'.cell? ⟨A, 6, none⟩ = some (.int .u64 k) := q0.cell 6
   go_simp
 try simp only [Act.put, zqa, zqb, zqc]
 refine oneL (i := 6) (by kernel_rfl) rfl (fun K hK => ?_)
 go_simp
 refine (at2_any k WD).mono ?_
 rintro e1 w3 ⟨rfl, hb3⟩
 replace I2 := hide (I2.out.below hb3)
 replace B2 := hide (B2.out.trans (hb3.mono B2.out.size))
 clear hb3
 refine hK.out _ _ ?_ ?_
 · exact I2.out
 clear hK K
 try simp only [Act.put, zqa, zqb, zqc]
 clear hHeld
 have hHeld : (fun w' => IsB w' A (rcL h st k oa oo).toArray 33) w3 := I2.out
 refine pkA (v := .agg (cfL h st 2 k).toArray) 7 (some 14) rfl rfl ?_ (by assumption) ?_
 · intro w'
   go_simp
   try rfl
 try simp only [Act.put, zqa, zqb, zqc]
 refine oneL (i := 8) (by kernel_rfl) rfl (fun K hK => ?_)
 go_simp
 refine (dnew_bad h st 2 k hm w3).mono ?_
 rintro e2 w4 ⟨rfl, hb4⟩
 replace I2 := hide (I2.out.below hb4)
 replace B2 := hide (B2.out.trans (hb4.mono B2.out.size))
 clear hb4
 refine hK.out _ _ ?_ ?_
 · exact I2.out
 clear hK K
 try simp only [Act.put, zqa, zqb, zqc]
 clear hHeld
 have hHeld : (fun w' => IsB w' A (rcL h st k oa oo).toArray 33) w4 := I2.out
 refine pkA (v := ?_) 9 (some 6) rfl rfl ?_ (by assumption) ?_
 rotate_left
 · intro w'
   go_simp
   try with_reducible rfl
 try simp only [Act.put, zqa, zqb, zqc]
 refine pkA (v := .pointer none) 10 (some 16) rfl rfl ?_ (by assumption) ?_
 · intro w'
   go_simp
   try rfl
 try simp only [Act.put, zqa, zqb, zqc]
 refine pkA (v := .int .i64 120) 11 (some 17) rfl rfl ?_ (by assumption) ?_
 · intro w'
   go_simp
   try rfl
 try simp only [Act.put, zqa, zqb, zqc]
 refine pkA (v := ?_) 12 (some 4) rfl rfl ?_ (by assumption) ?_
 rotate_left
 · intro w'
   go_simp
   try with_reducible rfl
 try simp only [Act.put, zqa, zqb, zqc]
 refine pkA (v := ?_) 13 (some 5) rfl rfl ?_ (by assumption) ?_
 rotate_left
 · intro w'
   go_simp
   try with_reducible rfl
 try simp only [Act.put, zqa, zqb, zqc]
 refine doneL (by kernel_rfl) ?_ _
 clear hHeld
 go_wp2
 refine bodyPost_ret (results_tmp2 Tryz.results7 _ _ _) rfl ?_
 exact ⟨rfl, B2.out⟩

set_option maxHeartbeats 4000000 in
set_option maxRecDepth 100000 in
theorem dmnew_own (h : Int) (st : Rf) (k oa oo : Int) (hm : mayC h st 2 k = true) (hoo : okO oa oo = false) (w : World) : Calls Tryz.prog 7 #[.agg (rcL h st k oa oo).toArray] w fun e' w' => e' = .returned (.tuple #[.pointer none, .int .i64 160]) ∧ Below w.heap.size w w' := by
 have mixed : Tryz.prog.follows .mixedOrders = true := by kernel_rfl
 have DN := hide (dnew_ok h st 2 k (mayC_all hm).1 (mayC_all hm).2.1 (mayC_all hm).2.2.1 (mayC_all hm).2.2.2.1 (mayC_all hm).2.2.2.2)
 have b1 := gb1 w (.cells (rcL h st k oa oo).toArray 33)
 have I1 := IsB.new w (rcL h st k oa oo).toArray 33
 go_enter Tryz.func7, Tryz.ntmps7
 go_wp2_with fail
 have dr := (Below.refl (w.alloc (.cells (rcL h st k oa oo).toArray 33)).heap.size (w.alloc (.cells (rcL h st k oa oo).toArray 33))).drew
 have I2 := hide (I1.below dr)
 have B2 := hide (b1.trans (dr.mono b1.size))
 clear dr I1 b1
 obtain ⟨A, hA⟩ : ∃ A, w.heap.size = A := ⟨_, rfl⟩
 rw [hA] at I2
 refine regionL 14 (fun w' => IsB w' A (rcL h st k oa oo).toArray 33) mixed I2.out (fun hHeld => ?_)
 generalize (w.alloc (.cells (rcL h st k oa oo).toArray 33)).drew = WD at *
 refine pkA (v := ?_) 0 (some 7) rfl rfl ?_ (by assumption) ?_
 rotate_left
 · intro w'
   go_simp
   try with_reducible rfl
 try simp only [Act.put, zqa, zqb, zqc]
 refine pkT (v := .int .i64 h) 1 (some 8) rfl rfl ?_ (by assumption) ?_
 · intro w' hSw
   have q0 := hSw
   have yy : w'.cell? ⟨A, 0, none⟩ = some (.int .i64 h) := q0.cell 0
   go_simp
 try simp only [Act.put, zqa, zqb, zqc]
 refine pkA (v := ?_) 2 (some 9) rfl rfl ?_ (by assumption) ?_
 rotate_left
 · intro w'
   go_simp
   try with_reducible rfl
 try simp only [Act.put, zqa, zqb, zqc]
 refine pkT (v := .agg #[.int .i64 st.id, .int .i64 st.rk, .int .u64 st.kn, .int .i64 st.ln, .int .u64 st.bt]) 3 (some 10) rfl rfl ?_ (by assumption) ?_
 · intro w' hSw
   have q0 := hSw
   exact exec_load rfl rfl (load_mid q0 1 29 [.int .i64 st.id, .int .i64 st.rk, .int .u64 st.kn, .int .i64 st.ln, .int .u64 st.bt] _ rfl Tryz.underlying29 rfl (by kernel_rfl))
 try simp only [Act.put, zqa, zqb, zqc]
 refine pkA (v := ?_) 4 (some 11) rfl rfl ?_ (by assumption) ?_
 rotate_left
 · intro w'
   go_simp
   try with_reducible rfl
 try simp only [Act.put, zqa, zqb, zqc]
 refine pkT (v := .int .u64 k) 5 (some 12) rfl rfl ?_ (by assumption) ?_
 · intro w' hSw
   have q0 := hSw
   have yy : w'.cell? ⟨A, 6, none⟩ = some (.int .u64 k) := q0.cell 6
   go_simp
 try simp only [Act.put, zqa, zqb, zqc]
 refine oneL (i := 6) (by kernel_rfl) rfl (fun K hK => ?_)
 go_simp
 refine (at2_any k WD).mono ?_
 rintro e1 w3 ⟨rfl, hb3⟩
 replace I2 := hide (I2.out.below hb3)
 replace B2 := hide (B2.out.trans (hb3.mono B2.out.size))
 clear hb3
 refine hK.out _ _ ?_ ?_
 · exact I2.out
 clear hK K
 try simp only [Act.put, zqa, zqb, zqc]
 clear hHeld
 have hHeld : (fun w' => IsB w' A (rcL h st k oa oo).toArray 33) w3 := I2.out
 refine pkA (v := .agg (cfL h st 2 k).toArray) 7 (some 14) rfl rfl ?_ (by assumption) ?_
 · intro w'
   go_simp
   try rfl
 try simp only [Act.put, zqa, zqb, zqc]
 refine oneL (i := 8) (by kernel_rfl) rfl (fun K hK => ?_)
 go_simp
 refine (DN.out w3).mono ?_
 rintro e2 w4 ⟨q, rfl, X4', hb4⟩
 replace I2 := hide (I2.out.below hb4)
 have X4 := hide X4'
 have hb5 := B2.out.size
 replace B2 := hide (B2.out.trans (hb4.mono B2.out.size))
 clear hb4
 clear X4'
 refine hK.out _ _ ?_ ?_
 · exact I2.out
 clear hK K
 try simp only [Act.put, zqa, zqb, zqc]
 clear hHeld
 have hHeld : (fun w' => IsB w' A (rcL h st k oa oo).toArray 33) w4 := I2.out
 refine pkA (v := ?_) 9 (some 6) rfl rfl ?_ (by assumption) ?_
 rotate_left
 · intro w'
   go_simp
   try with_reducible rfl
 try simp only [Act.put, zqa, zqb, zqc]
 refine pkA (v := .pointer (some ⟨q, 0, none⟩)) 10 (some 16) rfl rfl ?_ (by assumption) ?_
 · intro w'
   go_simp
   try rfl
 try simp only [Act.put, zqa, zqb, zqc]
 refine pkA (v := .int .i64 0) 11 (some 17) rfl rfl ?_ (by assumption) ?_
 · intro w'
   go_simp
   try rfl
 try simp only [Act.put, zqa, zqb, zqc]
 refine pkA (v := ?_) 12 (some 4) rfl rfl ?_ (by assumption) ?_
 rotate_left
 · intro w'
   go_simp
   try with_reducible rfl
 try simp only [Act.put, zqa, zqb, zqc]
 refine pkA (v := ?_) 13 (some 5) rfl rfl ?_ (by assumption) ?_
 rotate_left
 · intro w'
   go_simp
   try with_reducible rfl
 try simp only [Act.put, zqa, zqb, zqc]
 refine doneL (by kernel_rfl) ?_ _
 clear hHeld
 have LO := hide (load_mid I2.out 7 31 [.int .i64 oa, .int .i64 oo] _ rfl Tryz.underlying31 rfl (by kernel_rfl))
 go_wp2_with (first | (focus ((with_reducible refine wpList_load_w ?_ 31 (.tmp 21) ?_ ?_ LO.out ?_); rotate_left; rfl; rfl; rotate_left; rfl)))
 refine (Un.isOwner_any oa oo _).mono ?_
 rintro e5 w5 ⟨rfl, hb5b⟩
 rw [hoo]
 replace I2 := hide (I2.out.below hb5b)
 replace X4 := hide (X4.out.below hb5b)
 replace B2 := hide (B2.out.trans (hb5b.mono B2.out.size))
 clear hb5b LO
 go_wp2
 refine bodyPost_ret (results_tmp2 Tryz.results7 _ _ _) rfl ?_
 exact ⟨rfl, B2.out⟩

set_option maxHeartbeats 4000000 in
set_option maxRecDepth 100000 in
theorem dmnew_ok (h : Int) (st : Rf) (k oa oo : Int) (hm : mayC h st 2 k = true) (hoo : okO oa oo = true) (w : World) : Calls Tryz.prog 7 #[.agg (rcL h st k oa oo).toArray] w fun e' w' => ∃ d q, e' = .returned (.tuple #[.pointer (some ⟨d, 0, none⟩), .int .i64 0]) ∧ IsB w' d (dmL ⟨h, st, k, oa, oo, zr, false, false, false, 0⟩ (.pointer (some ⟨q, 0, none⟩)) (.pointer none)).toArray 58 ∧ Dk w' q w.heap.size (newS h st 2 k) st [] ∧ w.heap.size ≤ d ∧ Below w.heap.size w w' := by
 have mixed : Tryz.prog.follows .mixedOrders = true := by kernel_rfl
 have DN := hide (dnew_ok h st 2 k (mayC_all hm).1 (mayC_all hm).2.1 (mayC_all hm).2.2.1 (mayC_all hm).2.2.2.1 (mayC_all hm).2.2.2.2)
 have b1 := gb1 w (.cells (rcL h st k oa oo).toArray 33)
 have I1 := IsB.new w (rcL h st k oa oo).toArray 33
 go_enter Tryz.func7, Tryz.ntmps7
 go_wp2_with fail
 have dr := (Below.refl (w.alloc (.cells (rcL h st k oa oo).toArray 33)).heap.size (w.alloc (.cells (rcL h st k oa oo).toArray 33))).drew
 have I2 := hide (I1.below dr)
 have B2 := hide (b1.trans (dr.mono b1.size))
 clear dr I1 b1
 obtain ⟨A, hA⟩ : ∃ A, w.heap.size = A := ⟨_, rfl⟩
 rw [hA] at I2
 refine regionL 14 (fun w' => IsB w' A (rcL h st k oa oo).toArray 33) mixed I2.out (fun hHeld => ?_)
 generalize (w.alloc (.cells (rcL h st k oa oo).toArray 33)).drew = WD at *
 refine pkA (v := ?_) 0 (some 7) rfl rfl ?_ (by assumption) ?_
 rotate_left
 · intro w'
   go_simp
   try with_reducible rfl
 try simp only [Act.put, zqa, zqb, zqc]
 refine pkT (v := .int .i64 h) 1 (some 8) rfl rfl ?_ (by assumption) ?_
 · intro w' hSw
   have q0 := hSw
   have yy : w'.cell? ⟨A, 0, none⟩ = some (.int .i64 h) := q0.cell 0
   go_simp
 try simp only [Act.put, zqa, zqb, zqc]
 refine pkA (v := ?_) 2 (some 9) rfl rfl ?_ (by assumption) ?_
 rotate_left
 · intro w'
   go_simp
   try with_reducible rfl
 try simp only [Act.put, zqa, zqb, zqc]
 refine pkT (v := .agg #[.int .i64 st.id, .int .i64 st.rk, .int .u64 st.kn, .int .i64 st.ln, .int .u64 st.bt]) 3 (some 10) rfl rfl ?_ (by assumption) ?_
 · intro w' hSw
   have q0 := hSw
   exact exec_load rfl rfl (load_mid q0 1 29 [.int .i64 st.id, .int .i64 st.rk, .int .u64 st.kn, .int .i64 st.ln, .int .u64 st.bt] _ rfl Tryz.underlying29 rfl (by kernel_rfl))
 try simp only [Act.put, zqa, zqb, zqc]
 refine pkA (v := ?_) 4 (some 11) rfl rfl ?_ (by assumption) ?_
 rotate_left
 · intro w'
   go_simp
   try with_reducible rfl
 try simp only [Act.put, zqa, zqb, zqc]
 refine pkT (v := .int .u64 k) 5 (some 12) rfl rfl ?_ (by assumption) ?_
 · intro w' hSw
   have q0 := hSw
   have yy : w'.cell? ⟨A, 6, none⟩ = some (.int .u64 k) := q0.cell 6
   go_simp
 try simp only [Act.put, zqa, zqb, zqc]
 refine oneL (i := 6) (by kernel_rfl) rfl (fun K hK => ?_)
 go_simp
 refine (at2_any k WD).mono ?_
 rintro e1 w3 ⟨rfl, hb3⟩
 replace I2 := hide (I2.out.below hb3)
 replace B2 := hide (B2.out.trans (hb3.mono B2.out.size))
 clear hb3
 refine hK.out _ _ ?_ ?_
 · exact I2.out
 clear hK K
 try simp only [Act.put, zqa, zqb, zqc]
 clear hHeld
 have hHeld : (fun w' => IsB w' A (rcL h st k oa oo).toArray 33) w3 := I2.out
 refine pkA (v := .agg (cfL h st 2 k).toArray) 7 (some 14) rfl rfl ?_ (by assumption) ?_
 · intro w'
   go_simp
   try rfl
 try simp only [Act.put, zqa, zqb, zqc]
 refine oneL (i := 8) (by kernel_rfl) rfl (fun K hK => ?_)
 go_simp
 refine (DN.out w3).mono ?_
 rintro e2 w4 ⟨q, rfl, X4', hb4⟩
 replace I2 := hide (I2.out.below hb4)
 have X4 := hide X4'
 have hb5 := B2.out.size
 replace B2 := hide (B2.out.trans (hb4.mono B2.out.size))
 clear hb4
 clear X4'
 refine hK.out _ _ ?_ ?_
 · exact I2.out
 clear hK K
 try simp only [Act.put, zqa, zqb, zqc]
 clear hHeld
 have hHeld : (fun w' => IsB w' A (rcL h st k oa oo).toArray 33) w4 := I2.out
 refine pkA (v := ?_) 9 (some 6) rfl rfl ?_ (by assumption) ?_
 rotate_left
 · intro w'
   go_simp
   try with_reducible rfl
 try simp only [Act.put, zqa, zqb, zqc]
 refine pkA (v := .pointer (some ⟨q, 0, none⟩)) 10 (some 16) rfl rfl ?_ (by assumption) ?_
 · intro w'
   go_simp
   try rfl
 try simp only [Act.put, zqa, zqb, zqc]
 refine pkA (v := .int .i64 0) 11 (some 17) rfl rfl ?_ (by assumption) ?_
 · intro w'
   go_simp
   try rfl
 try simp only [Act.put, zqa, zqb, zqc]
 refine pkA (v := ?_) 12 (some 4) rfl rfl ?_ (by assumption) ?_
 rotate_left
 · intro w'
   go_simp
   try with_reducible rfl
 try simp only [Act.put, zqa, zqb, zqc]
 refine pkA (v := ?_) 13 (some 5) rfl rfl ?_ (by assumption) ?_
 rotate_left
 · intro w'
   go_simp
   try with_reducible rfl
 try simp only [Act.put, zqa, zqb, zqc]
 refine doneL (by kernel_rfl) ?_ _
 clear hHeld
 have LO := hide (load_mid I2.out 7 31 [.int .i64 oa, .int .i64 oo] _ rfl Tryz.underlying31 rfl (by kernel_rfl))
 go_wp2_with (first | (focus ((with_reducible refine wpList_load_w ?_ 31 (.tmp 21) ?_ ?_ LO.out ?_); rotate_left; rfl; rfl; rotate_left; rfl)))
 refine (Un.isOwner_any oa oo _).mono ?_
 rintro e5 w5 ⟨rfl, hb5b⟩
 rw [hoo]
 replace I2 := hide (I2.out.below hb5b)
 replace X4 := hide (X4.out.below hb5b)
 replace B2 := hide (B2.out.trans (hb5b.mono B2.out.size))
 clear hb5b LO
 have LC : Hid ((Instr.loadAt 33 (.pointer (some ⟨A, 0, none⟩))).run Tryz.prog w5 = .ok (.agg #[.int .i64 h, .int .i64 st.id, .int .i64 st.rk, .int .u64 st.kn, .int .i64 st.ln, .int .u64 st.bt, .int .u64 k, .int .i64 oa, .int .i64 oo]) w5) := load_mid (cs := rcL h st k oa oo) I2.out 0 33 [.int .i64 h, .int .i64 st.id, .int .i64 st.rk, .int .u64 st.kn, .int .i64 st.ln, .int .u64 st.bt, .int .u64 k, .int .i64 oa, .int .i64 oo] _ rfl Tryz.underlying33 rfl (by kernel_rfl)
 have bn := gb1 w5 (.cells (dmL ⟨h, st, k, oa, oo, zr, false, false, false, 0⟩ (.pointer (some ⟨q, 0, none⟩)) (.pointer none)).toArray 58)
 have I6 := IsB.new w5 (dmL ⟨h, st, k, oa, oo, zr, false, false, false, 0⟩ (.pointer (some ⟨q, 0, none⟩)) (.pointer none)).toArray 58
 have X6 := X4.out.below bn
 have B6 := B2.out.trans (bn.mono B2.out.size)
 have hw5 := B2.out.size
 have F := hide (And.intro I6 (And.intro X6 (And.intro hw5 B6)))
 clear bn I6 X6 B6 hw5
 go_wp2_with (first | (focus ((with_reducible refine wpList_load_w ?_ 33 (.tmp 1) ?_ ?_ LC.out ?_); rotate_left; rfl; rfl; rotate_left; rfl)))
 refine bodyPost_ret (results_tmp2 Tryz.results7 _ _ _) rfl ?_
 obtain ⟨F1, F2, F3, F4⟩ := F.out
 exact ⟨w5.heap.size, q, rfl, F1, F2.base_to hb5, by omega, F4⟩

end Go.Proofs.YtokehogcenjefaaGreatDoor
