/- Alike steps: the document's SameResult, SameStep; answers that can be read. -/
import Derived.Test.YtiobfohcgdgpbaaEB
import Derived.Test.YtiobfohcgdgpbaaED
namespace Go.Proofs.Ytiobfohcgdgpbaa
open Go.RowKit Go.Maps Go.ChangeMaps

/-- A result's cells. -/
def rsL (e : Int) (l r : Rf) : List Value := [.int .i64 e, .int .u64 0, .slice none 0 0, .slice none 0 0, .int .i64 l.id, .int .i64 l.rk, .int .u64 l.kn, .int .i64 l.ln, .int .u64 l.bt, .int .i64 r.id, .int .i64 r.rk, .int .u64 r.kn, .int .i64 r.ln, .int .u64 r.bt, .bool false]
theorem wpList_bin_w {P : Program} {ops : Array Oper} {rest : List Oper} {o : Oper} {a : Act} {w : World} {Q : Exit → Act → World → Prop} (hw : Region.wanted o (yielded ops a.tmps) = true) (k : BinOp) (ty : TypeId) (x y : Operand) (ty2 : TypeId) (ho : o.op = .binOp k ty x y ty2) {xs ys : Array Value} {v : Value} (hx : a.eval x = .agg xs) (hy : a.eval y = .agg ys) (hl : P.eqGuardType P.depth ty = false ∧ (binOp k ty (.agg xs) (.agg ys)).run P w = .ok v w)
    (h : wpList P ops Q rest (a.put o.dst v) w) : wpList P ops Q (o :: rest) a w := by
  unfold wpList
  rw [if_pos hw]
  refine Or.inl ?_
  unfold Oper.wp
  rw [exec_bin hl.1 ho hx hy hl.2]
  exact h

theorem in_vec (d : Nat) (x y : Int) (w : World) : (Op.equalIn (d + 1 + 1) 24 (.agg #[.int .i64 x, .int .u64 y]) (.agg #[.int .i64 x, .int .u64 y])).run Try.prog w = .ok true w := by
  have u0 := Try.underlying3
  have a0 := Try.isAgg3
  have z0 := Try.sizeOf3
  have u1 := Try.underlying22
  have a1 := Try.isAgg22
  have z1 := Try.sizeOf22
  have hS : Try.prog.underlying 24 = some (.struct (Try.prog.fieldsOf 24)) := by kernel_rfl
  have hp : Try.prog.stoodInHeld 24 = false := by kernel_rfl
  rw [run_equalIn_agg w (d + 1) 24 _ _ hS hp]
  simp only [Program.fieldsOf, Try.underlying24]
  go_simp
theorem in_key (d : Nat) (x y : Int) (w : World) : (Op.equalIn (d + 1 + 1) 27 (.agg #[.int .i64 x, .int .u64 y]) (.agg #[.int .i64 x, .int .u64 y])).run Try.prog w = .ok true w := by
  have u0 := Try.underlying25
  have a0 := Try.isAgg25
  have z0 := Try.sizeOf25
  have u1 := Try.underlying22
  have a1 := Try.isAgg22
  have z1 := Try.sizeOf22
  have hS : Try.prog.underlying 27 = some (.struct (Try.prog.fieldsOf 27)) := by kernel_rfl
  have hp : Try.prog.stoodInHeld 27 = false := by kernel_rfl
  rw [run_equalIn_agg w (d + 1) 27 _ _ hS hp]
  simp only [Program.fieldsOf, Try.underlying27]
  go_simp
theorem in_owner (d : Nat) (x y : Int) (w : World) : (Op.equalIn (d + 1 + 1) 31 (.agg #[.int .i64 x, .int .i64 y]) (.agg #[.int .i64 x, .int .i64 y])).run Try.prog w = .ok true w := by
  have u0 := Try.underlying3
  have a0 := Try.isAgg3
  have z0 := Try.sizeOf3
  have hS : Try.prog.underlying 31 = some (.struct (Try.prog.fieldsOf 31)) := by kernel_rfl
  have hp : Try.prog.stoodInHeld 31 = false := by kernel_rfl
  rw [run_equalIn_agg w (d + 1) 31 _ _ hS hp]
  simp only [Program.fieldsOf, Try.underlying31]
  go_simp
theorem in_ref (d : Nat) (r : Rf) (w : World) : (Op.equalIn (d + 1 + 1 + 1) 29 (.agg #[.int .i64 r.id, .int .i64 r.rk, .int .u64 r.kn, .int .i64 r.ln, .int .u64 r.bt]) (.agg #[.int .i64 r.id, .int .i64 r.rk, .int .u64 r.kn, .int .i64 r.ln, .int .u64 r.bt])).run Try.prog w = .ok true w := by
  have u0 := Try.underlying3
  have a0 := Try.isAgg3
  have z0 := Try.sizeOf3
  have g0 := Try.isAgg27
  have s0 := Try.sizeOf27
  have g1 := Try.isAgg24
  have s1 := Try.sizeOf24
  have e1 := in_key d
  have e2 := in_vec d
  have hS : Try.prog.underlying 29 = some (.struct (Try.prog.fieldsOf 29)) := by kernel_rfl
  have hp : Try.prog.stoodInHeld 29 = false := by kernel_rfl
  rw [run_equalIn_agg w (d + 1 + 1) 29 _ _ hS hp]
  clear hS hp
  simp only [Program.fieldsOf, Try.underlying29]
  go_simp
theorem eqa (q x y : Int) (r1 r2 : Rf) (oa oo : Int) (w : World) : Try.prog.eqGuardType Try.prog.depth 47 = false ∧ (binOp .eql 47 (.agg (akL q x y r1 r2 oa oo).toArray) (.agg (akL q x y r1 r2 oa oo).toArray)).run Try.prog w = .ok (.bool true) w := by
  refine ⟨by kernel_rfl, ?_⟩
  show (binOp .eql 47 (.agg #[.int .i64 q, .int .i64 x, .int .u64 y, .int .i64 r1.id, .int .i64 r1.rk, .int .u64 r1.kn, .int .i64 r1.ln, .int .u64 r1.bt, .int .i64 r2.id, .int .i64 r2.rk, .int .u64 r2.kn, .int .i64 r2.ln, .int .u64 r2.bt, .int .i64 oa, .int .i64 oo]) (.agg #[.int .i64 q, .int .i64 x, .int .u64 y, .int .i64 r1.id, .int .i64 r1.rk, .int .u64 r1.kn, .int .i64 r1.ln, .int .u64 r1.bt, .int .i64 r2.id, .int .i64 r2.rk, .int .u64 r2.kn, .int .i64 r2.ln, .int .u64 r2.bt, .int .i64 oa, .int .i64 oo])).run Try.prog w = .ok (.bool true) w
  have u0 := Try.underlying45
  have a0 := Try.isAgg45
  have z0 := Try.sizeOf45
  have g0 := Try.isAgg29
  have s0 := Try.sizeOf29
  have g1 := Try.isAgg24
  have s1 := Try.sizeOf24
  have g2 := Try.isAgg31
  have s2 := Try.sizeOf31
  have hS : Try.prog.underlying 47 = some (.struct (Try.prog.fieldsOf 47)) := by kernel_rfl
  have hp : Try.prog.stoodInHeld 47 = false := by kernel_rfl
  obtain ⟨dd, hd⟩ : ∃ dd, (10000 : Nat) = dd + 1 + 1 + 1 + 1 := ⟨9996, rfl⟩
  rw [run_eql_struct, hd, run_equalIn_agg w (dd + 1 + 1 + 1) 47 _ _ hS hp]
  have e1 := in_ref dd
  have e2 := in_vec (dd + 1)
  have e3 := in_owner (dd + 1)
  clear hd hS hp
  simp only [Program.fieldsOf, Try.underlying47]
  go_simp
theorem eqr_r (r : Rf) (w : World) : Try.prog.eqGuardType Try.prog.depth 29 = false ∧ (binOp .eql 29 (.agg r.cells) (.agg r.cells)).run Try.prog w = .ok (.bool true) w := by
  refine ⟨rguard, ?_⟩
  have h := eqr r.id r.rk r.kn r.ln r.bt r.id r.rk r.kn r.ln r.bt w
  simp at h
  exact h
theorem ner_r (r : Rf) (w : World) : Try.prog.eqGuardType Try.prog.depth 29 = false ∧ (binOp .neq 29 (.agg r.cells) (.agg r.cells)).run Try.prog w = .ok (.bool false) w := by
  refine ⟨rguard, ?_⟩
  have h := ner r.id r.rk r.kn r.ln r.bt r.id r.rk r.kn r.ln r.bt w
  simp at h
  exact h
theorem conv0 (w : World) : (convert 48 9 (.slice none 0 0)).run Try.prog w = .ok (.string ⟨#[]⟩) w := by kernel_rfl

set_option maxHeartbeats 2000000 in
set_option maxRecDepth 100000 in
theorem sameRes_any (e : Int) (l r : Rf) (w : World) : Calls Try.prog 30 #[.agg (rsL e l r).toArray, .agg (rsL e l r).toArray] w fun e' w' => e' = .returned (.bool true) ∧ Below w.heap.size w w' := by
  have b1 := ((Below.refl w.heap.size w).alloc (Nat.le_refl _) (.cells (rsL e l r).toArray 51)).alloc (by simp) (.cells (rsL e l r).toArray 51)
  have A := (IsB.new w (rsL e l r).toArray 51).below ((Below.refl _ _).alloc (Nat.le_refl _) (.cells (rsL e l r).toArray 51))
  have C := IsB.new (w.alloc (.cells (rsL e l r).toArray 51)) (rsL e l r).toArray 51
  rw [World.size_alloc] at C
  have B := hide b1
  have l1 := hide (load_mid A 4 29 l.cs _ rfl Try.underlying29 rfl (by kernel_rfl))
  have l2 := hide (load_mid C 4 29 l.cs _ rfl Try.underlying29 rfl (by kernel_rfl))
  have l3 := hide (load_mid A 9 29 r.cs _ rfl Try.underlying29 rfl (by kernel_rfl))
  have l4 := hide (load_mid C 9 29 r.cs _ rfl Try.underlying29 rfl (by kernel_rfl))
  have N1 := hide (ner_r l ((w.alloc (.cells (rsL e l r).toArray 51)).alloc (.cells (rsL e l r).toArray 51)))
  have N2 := hide (ner_r r ((w.alloc (.cells (rsL e l r).toArray 51)).alloc (.cells (rsL e l r).toArray 51)))
  have a0 : ((w.alloc (.cells (rsL e l r).toArray 51)).alloc (.cells (rsL e l r).toArray 51)).cell? ⟨w.heap.size, 0, none⟩ = some (.int .i64 e) := A.cell 0
  have a1 : ((w.alloc (.cells (rsL e l r).toArray 51)).alloc (.cells (rsL e l r).toArray 51)).cell? ⟨w.heap.size, 1, none⟩ = some (.int .u64 0) := A.cell 1
  have a2 : ((w.alloc (.cells (rsL e l r).toArray 51)).alloc (.cells (rsL e l r).toArray 51)).cell? ⟨w.heap.size, 2, none⟩ = some (.slice none 0 0) := A.cell 2
  have a3 : ((w.alloc (.cells (rsL e l r).toArray 51)).alloc (.cells (rsL e l r).toArray 51)).cell? ⟨w.heap.size, 3, none⟩ = some (.slice none 0 0) := A.cell 3
  have a14 : ((w.alloc (.cells (rsL e l r).toArray 51)).alloc (.cells (rsL e l r).toArray 51)).cell? ⟨w.heap.size, 14, none⟩ = some (.bool false) := A.cell 14
  have c0 : ((w.alloc (.cells (rsL e l r).toArray 51)).alloc (.cells (rsL e l r).toArray 51)).cell? ⟨w.heap.size + 1, 0, none⟩ = some (.int .i64 e) := C.cell 0
  have c1 : ((w.alloc (.cells (rsL e l r).toArray 51)).alloc (.cells (rsL e l r).toArray 51)).cell? ⟨w.heap.size + 1, 1, none⟩ = some (.int .u64 0) := C.cell 1
  have c2 : ((w.alloc (.cells (rsL e l r).toArray 51)).alloc (.cells (rsL e l r).toArray 51)).cell? ⟨w.heap.size + 1, 2, none⟩ = some (.slice none 0 0) := C.cell 2
  have c3 : ((w.alloc (.cells (rsL e l r).toArray 51)).alloc (.cells (rsL e l r).toArray 51)).cell? ⟨w.heap.size + 1, 3, none⟩ = some (.slice none 0 0) := C.cell 3
  have c14 : ((w.alloc (.cells (rsL e l r).toArray 51)).alloc (.cells (rsL e l r).toArray 51)).cell? ⟨w.heap.size + 1, 14, none⟩ = some (.bool false) := C.cell 14
  have cv := conv0 ((w.alloc (.cells (rsL e l r).toArray 51)).alloc (.cells (rsL e l r).toArray 51))
  clear b1 A C
  skip
  go_enter Try.func30, Try.ntmps30
  go_wp2_with (first | (focus ((with_reducible refine wpList_load_w ?_ 29 (.tmp 37) ?_ ?_ l1.out ?_); rotate_left; rfl; rfl; rotate_left; rfl)) | (focus ((with_reducible refine wpList_load_w ?_ 29 (.tmp 39) ?_ ?_ l2.out ?_); rotate_left; rfl; rfl; rotate_left; rfl)) | (focus ((with_reducible refine wpList_load_w ?_ 29 (.tmp 44) ?_ ?_ l3.out ?_); rotate_left; rfl; rfl; rotate_left; rfl)) | (focus ((with_reducible refine wpList_load_w ?_ 29 (.tmp 46) ?_ ?_ l4.out ?_); rotate_left; rfl; rfl; rotate_left; rfl)) | (focus ((with_reducible refine wpList_bin_w ?_ .neq 29 (.tmp 38) (.tmp 40) 29 ?_ ?_ ?_ N1.out ?_); rotate_left; rfl; rfl; rfl; rotate_left; rfl)) | (focus ((with_reducible refine wpList_bin_w ?_ .neq 29 (.tmp 45) (.tmp 47) 29 ?_ ?_ ?_ N2.out ?_); rotate_left; rfl; rfl; rfl; rotate_left; rfl)))
  go_loop [5] (fun i => i = .int .i64 0) (fun _ => 0)
  case atStart => rfl
  case round =>
    subst hrel
    go_wp2
    go_ret
    exact ⟨rfl, B.out⟩

set_option maxHeartbeats 2000000 in
set_option maxRecDepth 100000 in
theorem sameStep_any (k : Int) (r : Rf) (q x y : Int) (r1 r2 : Rf) (oa oo e : Int) (l r3 : Rf) (w : World) : Calls Try.prog 10 #[.agg (stL k r q x y r1 r2 oa oo e l r3).toArray, .agg (stL k r q x y r1 r2 oa oo e l r3).toArray] w fun e' w' => e' = .returned (.bool true) ∧ Below w.heap.size w w' := by
  have b1 := ((Below.refl w.heap.size w).alloc (Nat.le_refl _) (.cells (stL k r q x y r1 r2 oa oo e l r3).toArray 53)).alloc (by simp) (.cells (stL k r q x y r1 r2 oa oo e l r3).toArray 53)
  have A := (IsB.new w (stL k r q x y r1 r2 oa oo e l r3).toArray 53).below ((Below.refl _ _).alloc (Nat.le_refl _) (.cells (stL k r q x y r1 r2 oa oo e l r3).toArray 53))
  have C := IsB.new (w.alloc (.cells (stL k r q x y r1 r2 oa oo e l r3).toArray 53)) (stL k r q x y r1 r2 oa oo e l r3).toArray 53
  rw [World.size_alloc] at C
  have B := hide b1
  have l1 := hide (load_mid A 1 29 r.cs _ rfl Try.underlying29 rfl (by kernel_rfl))
  have l2 := hide (load_mid C 1 29 r.cs _ rfl Try.underlying29 rfl (by kernel_rfl))
  have l3 := hide (load_mid A 6 47 (akL q x y r1 r2 oa oo) _ rfl Try.underlying47 rfl (by kernel_rfl))
  have l4 := hide (load_mid C 6 47 (akL q x y r1 r2 oa oo) _ rfl Try.underlying47 rfl (by kernel_rfl))
  have l5 := hide (load_mid A 21 51 (rsL e l r3) _ rfl Try.underlying51 rfl (by kernel_rfl))
  have l6 := hide (load_mid C 21 51 (rsL e l r3) _ rfl Try.underlying51 rfl (by kernel_rfl))
  have N1 := hide (eqr_r r ((w.alloc (.cells (stL k r q x y r1 r2 oa oo e l r3).toArray 53)).alloc (.cells (stL k r q x y r1 r2 oa oo e l r3).toArray 53)))
  have N2 := hide (eqa q x y r1 r2 oa oo ((w.alloc (.cells (stL k r q x y r1 r2 oa oo e l r3).toArray 53)).alloc (.cells (stL k r q x y r1 r2 oa oo e l r3).toArray 53)))
  have SR := hide (sameRes_any e l r3 ((w.alloc (.cells (stL k r q x y r1 r2 oa oo e l r3).toArray 53)).alloc (.cells (stL k r q x y r1 r2 oa oo e l r3).toArray 53)))
  have a0 : ((w.alloc (.cells (stL k r q x y r1 r2 oa oo e l r3).toArray 53)).alloc (.cells (stL k r q x y r1 r2 oa oo e l r3).toArray 53)).cell? ⟨w.heap.size, 0, none⟩ = some (.int .i64 k) := A.cell 0
  have c0 : ((w.alloc (.cells (stL k r q x y r1 r2 oa oo e l r3).toArray 53)).alloc (.cells (stL k r q x y r1 r2 oa oo e l r3).toArray 53)).cell? ⟨w.heap.size + 1, 0, none⟩ = some (.int .i64 k) := C.cell 0
  clear b1 A C
  go_enter Try.func10, Try.ntmps10
  go_wp2_with (first | (focus ((with_reducible refine wpList_load_w ?_ 29 (.tmp 11) ?_ ?_ l1.out ?_); rotate_left; rfl; rfl; rotate_left; rfl)) | (focus ((with_reducible refine wpList_load_w ?_ 29 (.tmp 13) ?_ ?_ l2.out ?_); rotate_left; rfl; rfl; rotate_left; rfl)) | (focus ((with_reducible refine wpList_load_w ?_ 47 (.tmp 18) ?_ ?_ l3.out ?_); rotate_left; rfl; rfl; rotate_left; rfl)) | (focus ((with_reducible refine wpList_load_w ?_ 47 (.tmp 20) ?_ ?_ l4.out ?_); rotate_left; rfl; rfl; rotate_left; rfl)) | (focus ((with_reducible refine wpList_load_w ?_ 51 (.tmp 25) ?_ ?_ l5.out ?_); rotate_left; rfl; rfl; rotate_left; rfl)) | (focus ((with_reducible refine wpList_load_w ?_ 51 (.tmp 27) ?_ ?_ l6.out ?_); rotate_left; rfl; rfl; rotate_left; rfl)) | (focus ((with_reducible refine wpList_bin_w ?_ .eql 29 (.tmp 12) (.tmp 14) 29 ?_ ?_ ?_ N1.out ?_); rotate_left; rfl; rfl; rfl; rotate_left; rfl)) | (focus ((with_reducible refine wpList_bin_w ?_ .eql 47 (.tmp 19) (.tmp 21) 47 ?_ ?_ ?_ N2.out ?_); rotate_left; rfl; rfl; rfl; rotate_left; rfl)))
  refine SR.out.mono ?_
  rintro e' w3 ⟨rfl, hb⟩
  replace B := hide (B.out.trans (hb.mono B.out.size))
  clear hb SR
  go_wp2
  go_ret
  exact ⟨rfl, B.out⟩

/-- Answers that can be read. -/
def AnSl (w : World) (v : Value) (l : List An) : Prop := (v = .slice none 0 0 ∧ l = []) ∨ ∃ g o c, v = .slice (some ⟨g, o, none⟩) l.length c ∧ l.length ≤ c ∧ c ≤ maxLen ∧ g < w.heap.size ∧ ∀ j (hj : j < l.length) k, k < 13 → w.cell? ⟨g, o + j * 13 + k, none⟩ = (anL l[j])[k]?
theorem AnSl.below {w w' : World} {v : Value} {l : List An} (h : AnSl w v l) (hb : Below w.heap.size w w') : AnSl w' v l := by
  rcases h with h | ⟨g, o, c, rfl, h1, h2, h3, h4⟩
  · exact Or.inl h
  · refine Or.inr ⟨g, o, c, rfl, h1, h2, Nat.lt_of_lt_of_le h3 hb.size, fun j hj k hk => ?_⟩
    rw [← h4 j hj k hk]
    exact hb.cell h3
theorem AnSl.shape {w : World} {v : Value} {l : List An} (h : AnSl w v l) : ∃ a c, v = .slice a l.length c ∧ l.length ≤ c ∧ c ≤ maxLen := by
  rcases h with ⟨rfl, rfl⟩ | ⟨g, o, c, rfl, h1, h2, h3, h4⟩
  · exact ⟨none, 0, rfl, Nat.le_refl _, by unfold maxLen; omega⟩
  · exact ⟨_, c, rfl, h1, h2⟩
theorem AnSl.at2 {w : World} {v : Value} {l : List An} (h : AnSl w v l) (j : Nat) (hj : j < l.length) : ∃ g o c, v = .slice (some ⟨g, o, none⟩) l.length c ∧ ∀ w', Below w.heap.size w w' → (Instr.loadAt 58 (.pointer (some ⟨g, o + j * 13, none⟩))).run Try.prog w' = .ok (.agg (anL l[j]).toArray) w' := by
  rcases h with ⟨rfl, rfl⟩ | ⟨g, o, c, rfl, h1, h2, h3, h4⟩
  · simp at hj
  · refine ⟨g, o, c, rfl, fun w' hb => ?_⟩
    refine run_loadAt_mid w' g (o + j * 13) 58 (anL l[j]) _ (fun k v hk => ?_) Try.underlying58 rfl (by kernel_rfl)
    have hk2 : k < 13 := (List.getElem?_eq_some_iff.1 hk).1
    rw [hb.cell h3, h4 j hj k hk2]
    exact hk

end Go.Proofs.Ytiobfohcgdgpbaa
