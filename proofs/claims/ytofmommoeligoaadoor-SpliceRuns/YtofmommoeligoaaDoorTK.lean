/- Alike steps: the document's SameResult, SameStep. -/
import Derived.Test.YtofmommoeligoaaDoorTJ
namespace Go.Proofs.YtofmommoeligoaaDoor
open Go.RowKit Go.Maps Go.ChangeMaps

theorem in_vec (d : Nat) (x y : Int) (w : World) : (Op.equalIn (d + 1 + 1) 24 (.agg #[.int .i64 x, .int .u64 y]) (.agg #[.int .i64 x, .int .u64 y])).run Tryd.prog w = .ok true w := by
  have u0 := Tryd.underlying3
  have a0 := Tryd.isAgg3
  have z0 := Tryd.sizeOf3
  have u1 := Tryd.underlying22
  have a1 := Tryd.isAgg22
  have z1 := Tryd.sizeOf22
  have hS : Tryd.prog.underlying 24 = some (.struct (Tryd.prog.fieldsOf 24)) := by kernel_rfl
  have hp : Tryd.prog.stoodInHeld 24 = false := by kernel_rfl
  rw [run_equalIn_agg w (d + 1) 24 _ _ hS hp]
  simp only [Program.fieldsOf, Tryd.underlying24]
  go_simp
theorem in_key (d : Nat) (x y : Int) (w : World) : (Op.equalIn (d + 1 + 1) 27 (.agg #[.int .i64 x, .int .u64 y]) (.agg #[.int .i64 x, .int .u64 y])).run Tryd.prog w = .ok true w := by
  have u0 := Tryd.underlying25
  have a0 := Tryd.isAgg25
  have z0 := Tryd.sizeOf25
  have u1 := Tryd.underlying22
  have a1 := Tryd.isAgg22
  have z1 := Tryd.sizeOf22
  have hS : Tryd.prog.underlying 27 = some (.struct (Tryd.prog.fieldsOf 27)) := by kernel_rfl
  have hp : Tryd.prog.stoodInHeld 27 = false := by kernel_rfl
  rw [run_equalIn_agg w (d + 1) 27 _ _ hS hp]
  simp only [Program.fieldsOf, Tryd.underlying27]
  go_simp
theorem in_owner (d : Nat) (x y : Int) (w : World) : (Op.equalIn (d + 1 + 1) 31 (.agg #[.int .i64 x, .int .i64 y]) (.agg #[.int .i64 x, .int .i64 y])).run Tryd.prog w = .ok true w := by
  have u0 := Tryd.underlying3
  have a0 := Tryd.isAgg3
  have z0 := Tryd.sizeOf3
  have hS : Tryd.prog.underlying 31 = some (.struct (Tryd.prog.fieldsOf 31)) := by kernel_rfl
  have hp : Tryd.prog.stoodInHeld 31 = false := by kernel_rfl
  rw [run_equalIn_agg w (d + 1) 31 _ _ hS hp]
  simp only [Program.fieldsOf, Tryd.underlying31]
  go_simp
theorem in_ref (d : Nat) (r : Rf) (w : World) : (Op.equalIn (d + 1 + 1 + 1) 29 (.agg #[.int .i64 r.id, .int .i64 r.rk, .int .u64 r.kn, .int .i64 r.ln, .int .u64 r.bt]) (.agg #[.int .i64 r.id, .int .i64 r.rk, .int .u64 r.kn, .int .i64 r.ln, .int .u64 r.bt])).run Tryd.prog w = .ok true w := by
  have u0 := Tryd.underlying3
  have a0 := Tryd.isAgg3
  have z0 := Tryd.sizeOf3
  have g0 := Tryd.isAgg27
  have s0 := Tryd.sizeOf27
  have g1 := Tryd.isAgg24
  have s1 := Tryd.sizeOf24
  have e1 := in_key d
  have e2 := in_vec d
  have hS : Tryd.prog.underlying 29 = some (.struct (Tryd.prog.fieldsOf 29)) := by kernel_rfl
  have hp : Tryd.prog.stoodInHeld 29 = false := by kernel_rfl
  rw [run_equalIn_agg w (d + 1 + 1) 29 _ _ hS hp]
  clear hS hp
  simp only [Program.fieldsOf, Tryd.underlying29]
  go_simp
theorem eqa (q x y : Int) (r1 r2 : Rf) (oa oo : Int) (w : World) : Tryd.prog.eqGuardType Tryd.prog.depth 47 = false ∧ (binOp .eql 47 (.agg (akL q x y r1 r2 oa oo).toArray) (.agg (akL q x y r1 r2 oa oo).toArray)).run Tryd.prog w = .ok (.bool true) w := by
  refine ⟨by kernel_rfl, ?_⟩
  show (binOp .eql 47 (.agg #[.int .i64 q, .int .i64 x, .int .u64 y, .int .i64 r1.id, .int .i64 r1.rk, .int .u64 r1.kn, .int .i64 r1.ln, .int .u64 r1.bt, .int .i64 r2.id, .int .i64 r2.rk, .int .u64 r2.kn, .int .i64 r2.ln, .int .u64 r2.bt, .int .i64 oa, .int .i64 oo]) (.agg #[.int .i64 q, .int .i64 x, .int .u64 y, .int .i64 r1.id, .int .i64 r1.rk, .int .u64 r1.kn, .int .i64 r1.ln, .int .u64 r1.bt, .int .i64 r2.id, .int .i64 r2.rk, .int .u64 r2.kn, .int .i64 r2.ln, .int .u64 r2.bt, .int .i64 oa, .int .i64 oo])).run Tryd.prog w = .ok (.bool true) w
  have u0 := Tryd.underlying45
  have a0 := Tryd.isAgg45
  have z0 := Tryd.sizeOf45
  have g0 := Tryd.isAgg29
  have s0 := Tryd.sizeOf29
  have g1 := Tryd.isAgg24
  have s1 := Tryd.sizeOf24
  have g2 := Tryd.isAgg31
  have s2 := Tryd.sizeOf31
  have hS : Tryd.prog.underlying 47 = some (.struct (Tryd.prog.fieldsOf 47)) := by kernel_rfl
  have hp : Tryd.prog.stoodInHeld 47 = false := by kernel_rfl
  obtain ⟨dd, hd⟩ : ∃ dd, (10000 : Nat) = dd + 1 + 1 + 1 + 1 := ⟨9996, rfl⟩
  rw [run_eql_struct, hd, run_equalIn_agg w (dd + 1 + 1 + 1) 47 _ _ hS hp]
  have e1 := in_ref dd
  have e2 := in_vec (dd + 1)
  have e3 := in_owner (dd + 1)
  clear hd hS hp
  simp only [Program.fieldsOf, Tryd.underlying47]
  go_simp
theorem eqr_r (r : Rf) (w : World) : Tryd.prog.eqGuardType Tryd.prog.depth 29 = false ∧ (binOp .eql 29 (.agg r.cells) (.agg r.cells)).run Tryd.prog w = .ok (.bool true) w := by
  refine ⟨rguard, ?_⟩
  have h := eqr r.id r.rk r.kn r.ln r.bt r.id r.rk r.kn r.ln r.bt w
  simp at h
  exact h
theorem ner_r (r : Rf) (w : World) : Tryd.prog.eqGuardType Tryd.prog.depth 29 = false ∧ (binOp .neq 29 (.agg r.cells) (.agg r.cells)).run Tryd.prog w = .ok (.bool false) w := by
  refine ⟨rguard, ?_⟩
  have h := ner r.id r.rk r.kn r.ln r.bt r.id r.rk r.kn r.ln r.bt w
  simp at h
  exact h
theorem conv0 (w : World) : (convert 48 9 (.slice none 0 0)).run Tryd.prog w = .ok (.string ⟨#[]⟩) w := by kernel_rfl

set_option maxHeartbeats 2000000 in
set_option maxRecDepth 100000 in
theorem sameRes_any (e : Int) (l r : Rf) (w : World) : Calls Tryd.prog 34 #[.agg (rsL e l r).toArray, .agg (rsL e l r).toArray] w fun e' w' => e' = .returned (.bool true) ∧ Below w.heap.size w w' := by
  have b1 := ((Below.refl w.heap.size w).alloc (Nat.le_refl _) (.cells (rsL e l r).toArray 51)).alloc (by simp) (.cells (rsL e l r).toArray 51)
  have A := (IsB.new w (rsL e l r).toArray 51).below ((Below.refl _ _).alloc (Nat.le_refl _) (.cells (rsL e l r).toArray 51))
  have C := IsB.new (w.alloc (.cells (rsL e l r).toArray 51)) (rsL e l r).toArray 51
  rw [World.size_alloc] at C
  have B := hide b1
  have l1 := hide (load_mid A 4 29 l.cs _ rfl Tryd.underlying29 rfl (by kernel_rfl))
  have l2 := hide (load_mid C 4 29 l.cs _ rfl Tryd.underlying29 rfl (by kernel_rfl))
  have l3 := hide (load_mid A 9 29 r.cs _ rfl Tryd.underlying29 rfl (by kernel_rfl))
  have l4 := hide (load_mid C 9 29 r.cs _ rfl Tryd.underlying29 rfl (by kernel_rfl))
  have N1 := hide (ner_r l ((w.alloc (.cells (rsL e l r).toArray 51)).alloc (.cells (rsL e l r).toArray 51)))
  have N2 := hide (ner_r r ((w.alloc (.cells (rsL e l r).toArray 51)).alloc (.cells (rsL e l r).toArray 51)))
  have a0 : ((w.alloc (.cells (rsL e l r).toArray 51)).alloc (.cells (rsL e l r).toArray 51)).cell? ⟨w.heap.size, 0, none⟩ = some (.int .i64 e) := A.cell 0
  have a1 : ((w.alloc (.cells (rsL e l r).toArray 51)).alloc (.cells (rsL e l r).toArray 51)).cell? ⟨w.heap.size, 1, none⟩ = some (.int .u64 0) := A.cell 1
  have a2 : ((w.alloc (.cells (rsL e l r).toArray 51)).alloc (.cells (rsL e l r).toArray 51)).cell? ⟨w.heap.size, 2, none⟩ = some (.slice none 0 0) := A.cell 2
  have a3 : ((w.alloc (.cells (rsL e l r).toArray 51)).alloc (.cells (rsL e l r).toArray 51)).cell? ⟨w.heap.size, 3, none⟩ = some (.slice none 0 0) := A.cell 3
  have a14 : ((w.alloc (.cells (rsL e l r).toArray 51)).alloc (.cells (rsL e l r).toArray 51)).cell? ⟨w.heap.size, 14, none⟩ = some (.bool false) := A.cell 14
  have c0 : ((w.alloc (.cells (rsL e l r).toArray 51)).alloc (.cells (rsL e l r).toArray 51)).cell? ⟨w.heap.size + 1, 0, none⟩ = some (.int .i64 e) := C.cell 0
  have c1 : ((w.alloc (.cells (rsL e l r).toArray 51)).alloc (.cells (rsL e l r).toArray 51)).cell? ⟨w.heap.size + 1, 1, none⟩ = some (.int .u64 0) := C.cell 1
  have c2 : ((w.alloc (.cells (rsL e l r).toArray 51)).alloc (.cells (rsL e l r).toArray 51)).cell? ⟨w.heap.size + 1, 2, none⟩ = some (.slice none 0 0) := C.cell 2
  have c3 : ((w.alloc (.cells (rsL e l r).toArray 51)).alloc (.cells (rsL e l r).toArray 51)).cell? ⟨w.heap.size + 1, 3, none⟩ = some (.slice none 0 0) := C.cell 3
  have c14 : ((w.alloc (.cells (rsL e l r).toArray 51)).alloc (.cells (rsL e l r).toArray 51)).cell? ⟨w.heap.size + 1, 14, none⟩ = some (.bool false) := C.cell 14
  have cv := conv0 ((w.alloc (.cells (rsL e l r).toArray 51)).alloc (.cells (rsL e l r).toArray 51))
  clear b1 A C
  skip
  go_enter Tryd.func34, Tryd.ntmps34
  go_wp2_with (first | (focus ((with_reducible refine wpList_load_w ?_ 29 (.tmp 37) ?_ ?_ l1.out ?_); rotate_left; rfl; rfl; rotate_left; rfl)) | (focus ((with_reducible refine wpList_load_w ?_ 29 (.tmp 39) ?_ ?_ l2.out ?_); rotate_left; rfl; rfl; rotate_left; rfl)) | (focus ((with_reducible refine wpList_load_w ?_ 29 (.tmp 44) ?_ ?_ l3.out ?_); rotate_left; rfl; rfl; rotate_left; rfl)) | (focus ((with_reducible refine wpList_load_w ?_ 29 (.tmp 46) ?_ ?_ l4.out ?_); rotate_left; rfl; rfl; rotate_left; rfl)) | (focus ((with_reducible refine wpList_bin_w ?_ .neq 29 (.tmp 38) (.tmp 40) 29 ?_ ?_ ?_ N1.out ?_); rotate_left; rfl; rfl; rfl; rotate_left; rfl)) | (focus ((with_reducible refine wpList_bin_w ?_ .neq 29 (.tmp 45) (.tmp 47) 29 ?_ ?_ ?_ N2.out ?_); rotate_left; rfl; rfl; rfl; rotate_left; rfl)))
  go_loop [5] (fun i => i = .int .i64 0) (fun _ => 0)
  case atStart => rfl
  case round =>
    subst hrel
    go_wp2
    go_ret
    exact ⟨rfl, B.out⟩

set_option maxHeartbeats 2000000 in
set_option maxRecDepth 100000 in
theorem sameStep_any (k : Int) (r : Rf) (q x y : Int) (r1 r2 : Rf) (oa oo e : Int) (l r3 : Rf) (w : World) : Calls Tryd.prog 11 #[.agg (stL k r q x y r1 r2 oa oo e l r3).toArray, .agg (stL k r q x y r1 r2 oa oo e l r3).toArray] w fun e' w' => e' = .returned (.bool true) ∧ Below w.heap.size w w' := by
  have b1 := ((Below.refl w.heap.size w).alloc (Nat.le_refl _) (.cells (stL k r q x y r1 r2 oa oo e l r3).toArray 53)).alloc (by simp) (.cells (stL k r q x y r1 r2 oa oo e l r3).toArray 53)
  have A := (IsB.new w (stL k r q x y r1 r2 oa oo e l r3).toArray 53).below ((Below.refl _ _).alloc (Nat.le_refl _) (.cells (stL k r q x y r1 r2 oa oo e l r3).toArray 53))
  have C := IsB.new (w.alloc (.cells (stL k r q x y r1 r2 oa oo e l r3).toArray 53)) (stL k r q x y r1 r2 oa oo e l r3).toArray 53
  rw [World.size_alloc] at C
  have B := hide b1
  have l1 := hide (load_mid A 1 29 r.cs _ rfl Tryd.underlying29 rfl (by kernel_rfl))
  have l2 := hide (load_mid C 1 29 r.cs _ rfl Tryd.underlying29 rfl (by kernel_rfl))
  have l3 := hide (load_mid A 6 47 (akL q x y r1 r2 oa oo) _ rfl Tryd.underlying47 rfl (by kernel_rfl))
  have l4 := hide (load_mid C 6 47 (akL q x y r1 r2 oa oo) _ rfl Tryd.underlying47 rfl (by kernel_rfl))
  have l5 := hide (load_mid A 21 51 (rsL e l r3) _ rfl Tryd.underlying51 rfl (by kernel_rfl))
  have l6 := hide (load_mid C 21 51 (rsL e l r3) _ rfl Tryd.underlying51 rfl (by kernel_rfl))
  have N1 := hide (eqr_r r ((w.alloc (.cells (stL k r q x y r1 r2 oa oo e l r3).toArray 53)).alloc (.cells (stL k r q x y r1 r2 oa oo e l r3).toArray 53)))
  have N2 := hide (eqa q x y r1 r2 oa oo ((w.alloc (.cells (stL k r q x y r1 r2 oa oo e l r3).toArray 53)).alloc (.cells (stL k r q x y r1 r2 oa oo e l r3).toArray 53)))
  have SR := hide (sameRes_any e l r3 ((w.alloc (.cells (stL k r q x y r1 r2 oa oo e l r3).toArray 53)).alloc (.cells (stL k r q x y r1 r2 oa oo e l r3).toArray 53)))
  have a0 : ((w.alloc (.cells (stL k r q x y r1 r2 oa oo e l r3).toArray 53)).alloc (.cells (stL k r q x y r1 r2 oa oo e l r3).toArray 53)).cell? ⟨w.heap.size, 0, none⟩ = some (.int .i64 k) := A.cell 0
  have c0 : ((w.alloc (.cells (stL k r q x y r1 r2 oa oo e l r3).toArray 53)).alloc (.cells (stL k r q x y r1 r2 oa oo e l r3).toArray 53)).cell? ⟨w.heap.size + 1, 0, none⟩ = some (.int .i64 k) := C.cell 0
  clear b1 A C
  go_enter Tryd.func11, Tryd.ntmps11
  go_wp2_with (first | (focus ((with_reducible refine wpList_load_w ?_ 29 (.tmp 11) ?_ ?_ l1.out ?_); rotate_left; rfl; rfl; rotate_left; rfl)) | (focus ((with_reducible refine wpList_load_w ?_ 29 (.tmp 13) ?_ ?_ l2.out ?_); rotate_left; rfl; rfl; rotate_left; rfl)) | (focus ((with_reducible refine wpList_load_w ?_ 47 (.tmp 18) ?_ ?_ l3.out ?_); rotate_left; rfl; rfl; rotate_left; rfl)) | (focus ((with_reducible refine wpList_load_w ?_ 47 (.tmp 20) ?_ ?_ l4.out ?_); rotate_left; rfl; rfl; rotate_left; rfl)) | (focus ((with_reducible refine wpList_load_w ?_ 51 (.tmp 25) ?_ ?_ l5.out ?_); rotate_left; rfl; rfl; rotate_left; rfl)) | (focus ((with_reducible refine wpList_load_w ?_ 51 (.tmp 27) ?_ ?_ l6.out ?_); rotate_left; rfl; rfl; rotate_left; rfl)) | (focus ((with_reducible refine wpList_bin_w ?_ .eql 29 (.tmp 12) (.tmp 14) 29 ?_ ?_ ?_ N1.out ?_); rotate_left; rfl; rfl; rfl; rotate_left; rfl)) | (focus ((with_reducible refine wpList_bin_w ?_ .eql 47 (.tmp 19) (.tmp 21) 47 ?_ ?_ ?_ N2.out ?_); rotate_left; rfl; rfl; rfl; rotate_left; rfl)))
  refine SR.out.mono ?_
  rintro e' w3 ⟨rfl, hb⟩
  replace B := hide (B.out.trans (hb.mono B.out.size))
  clear hb SR
  go_wp2
  go_ret
  exact ⟨rfl, B.out⟩

end Go.Proofs.YtofmommoeligoaaDoor
