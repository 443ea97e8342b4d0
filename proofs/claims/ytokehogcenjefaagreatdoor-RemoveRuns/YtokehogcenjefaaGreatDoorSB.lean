/- A search in memory: made, stand, end, again, beginAgain. -/
import Derived.Test.YtokehogcenjefaaGreatDoorSA
namespace Go.Proofs.YtokehogcenjefaaGreatDoor
open Go.RowKit Go.Maps Go.ChangeMaps

/-- A search, and its wills, lie there. -/
structure SkAt (w : World) (b m : Nat) (S : Sk) (ws : List (Pl × Rf)) : Prop where
 blk : IsB w b (skL S (.map (some m))).toArray 171
 map : PMp w m ws
theorem SkAt.below {w w' : World} {b m : Nat} {S : Sk} {ws : List (Pl × Rf)} (h : SkAt w b m S ws) (hb : Below w.heap.size w w') : SkAt w' b m S ws := ⟨h.blk.below hb, h.map.below hb⟩
theorem SkAt.kp {T : List Nat} {w w' : World} {b m : Nat} {S : Sk} {ws : List (Pl × Rf)} (h : SkAt w b m S ws) (hk : Kp T w w') (h1 : b ∉ T) (h2 : m ∉ T) : SkAt w' b m S ws := ⟨h.blk.kp hk h1, h.map.kp hk h2⟩
theorem SkAt.turn {w w' : World} {b m : Nat} {S S' : Sk} {ws : List (Pl × Rf)} (h : SkAt w b m S ws) (hk : Kp [b] w w') (I : IsB w' b (skL S' (.map (some m))).toArray 171) : SkAt w' b m S' ws := ⟨I, h.map.kp hk (by have := h.map.off h.blk; simp; exact fun e => this e.symm)⟩
theorem wrap_small (x : Int) (h0 : 0 ≤ x) (h1 : x < 9223372036854775807) : IntKind.i64.wrap (x + 1) = x + 1 := by
 simp [IntKind.wrap, IntKind.bits, IntKind.signed]
 omega
theorem nmap (m : Nat) (w : World) : (binOp .neq 169 (.map (some m)) (.map none)).run Tryz.prog w = .ok (.bool true) w := by kernel_rfl
theorem Kp.wide {b m : Nat} {w w' : World} (h : Kp [b] w w') : Kp [b, m] w w' := h.mono (fun j hj => Or.inl (by simp at hj ⊢; exact Or.inl hj))
theorem Kp.tr {S : List Nat} {a b c : World} (h : Kp S a b) (k : Kp S b c) : Kp S a c := h.trans k (fun _ hj => Or.inl hj)
theorem Kp.al {S : List Nat} {a : World} (o : Obj) : Kp S a (a.alloc o) := (Kp.refl S a).alloc o

set_option maxHeartbeats 2000000 in
set_option maxRecDepth 100000 in
theorem made_yes (b m : Nat) (S : Sk) (ws : List (Pl × Rf)) (w : World) (X : SkAt w b m S ws) : Calls Tryz.prog 144 #[.pointer (some ⟨b, 0, none⟩)] w fun e w' => e = .returned (.bool true) ∧ w' = w := by
 have c20 := cl_map X.blk
 have nm := nmap m w
 go_enter Tryz.func144, Tryz.ntmps144
 go_wp2
 go_ret
 exact ⟨rfl, rfl⟩

set_option maxHeartbeats 2000000 in
set_option maxRecDepth 100000 in
theorem stand_any (b m : Nat) (S : Sk) (ws : List (Pl × Rf)) (r : Rf) (w : World) (X : SkAt w b m S ws) : Calls Tryz.prog 147 #[.pointer (some ⟨b, 0, none⟩), .agg r.cells] w fun e w' => e = .returned (.tuple #[]) ∧ SkAt w' b m { S with pt := r, ah := zr, lk := false } ws ∧ Kp [b, m] w w' := by
 have b1 := (Below.refl w.heap.size w).alloc (Nat.le_refl _) (.cells r.cells 29)
 have RB := IsB.new w r.cells 29
 have X1 := X.below b1
 have KZ : Hid (Kp [b, m] w (w.alloc (.cells r.cells 29))) := Kp.of_below b1
 have LR := hide (load_ref RB rfl)
 clear b1 X RB
 obtain ⟨w2, hs2, I2, k2⟩ := st_here X1.blk r
 obtain ⟨w3, hs3, I3, k3⟩ := st_ahead I2 zr
 obtain ⟨w4, hs4, I4, k4⟩ := st_looks I3 false
 have F4 : Hid (SkAt w4 b m { S with pt := r, ah := zr, lk := false } ws ∧ Kp [b, m] w w4) := ⟨X1.turn (k2.tr (k3.tr k4)) I4, KZ.out.tr (k2.tr (k3.tr k4)).wide⟩
 have HS2 := hide hs2
 have HS3 := hide hs3
 have HS4 := hide hs4
 clear hs2 hs3 hs4 I2 I3 I4 k2 k3 k4 KZ X1
 go_enter Tryz.func147, Tryz.ntmps147
 go_wp2_with (first | (focus ((with_reducible refine wpList_load_w ?_ 29 (.tmp 3) ?_ ?_ LR.out ?_); rotate_left; rfl; rfl; rotate_left; rfl)) | (focus ((with_reducible refine wpList_store_w ?_ 29 (.tmp 10) (.tmp 7) ?_ ?_ ?_ HS2.out ?_); rotate_left; rfl; rfl; rfl; rotate_left; rfl)) | (focus ((with_reducible refine wpList_store_w ?_ 29 (.tmp 12) (.tmp 8) ?_ ?_ ?_ HS3.out ?_); rotate_left; rfl; rfl; rfl; rotate_left; rfl)) | (focus ((with_reducible refine wpList_store_w ?_ 4 (.tmp 14) (.const (.bool false)) ?_ ?_ ?_ HS4.out ?_); rotate_left; rfl; rfl; rfl; rotate_left; rfl)))
 refine bodyPost_end (results_none rfl _ _ _) rfl ?_
 exact ⟨rfl, F4.out⟩

theorem load_res {w : World} {b : Nat} {e : Int} {l r : Rf} {f : Bool} (I : IsB w b (rsL e l r f).toArray 51) : (Instr.loadAt 51 (.pointer (some ⟨b, 0, none⟩))).run Tryz.prog w = .ok (.agg (rsL e l r f).toArray) w := load_mid I 0 _ (rsL e l r f) _ rfl Tryz.underlying51 rfl (by kernel_rfl)

set_option maxHeartbeats 2000000 in
set_option maxRecDepth 100000 in
theorem end_any (b m : Nat) (S : Sk) (ws : List (Pl × Rf)) (e : Int) (l r : Rf) (f : Bool) (w : World) (X : SkAt w b m S ws) : Calls Tryz.prog 155 #[.pointer (some ⟨b, 0, none⟩), .agg (rsL e l r f).toArray] w fun e' w' => e' = .returned (.tuple #[]) ∧ SkAt w' b m { S with ov := true, e := e, rl := l, rr := r, fd := f } ws ∧ Kp [b, m] w w' := by
 have mixed : Tryz.prog.follows .mixedOrders = true := by kernel_rfl
 have b1 := ((Below.refl w.heap.size w).alloc (Nat.le_refl _) (.cells (rsL e l r f).toArray 51)).drew
 have RB : Hid (IsB ((w.alloc (.cells (rsL e l r f).toArray 51)).drew) w.heap.size (rsL e l r f).toArray 51) := (IsB.new w (rsL e l r f).toArray 51).below ((Below.refl _ _).drew)
 have X1 := X.below b1
 have KZ : Hid (Kp [b, m] w ((w.alloc (.cells (rsL e l r f).toArray 51)).drew)) := Kp.of_below b1
 clear b1
 obtain ⟨w2, hs2, I2, k2⟩ := st_over X1.blk true
 obtain ⟨w3, hs3, I3, k3⟩ := st_res I2 e l r f
 have F4 : Hid (SkAt w3 b m { S with ov := true, e := e, rl := l, rr := r, fd := f } ws ∧ Kp [b, m] w w3) := ⟨X1.turn (k2.tr k3) I3, KZ.out.tr (k2.tr k3).wide⟩
 have RB2 : Hid (IsB w2 w.heap.size (rsL e l r f).toArray 51) := RB.out.kp k2 (by have := X.blk.lt; simp; omega)
 have HS2 := hide hs2
 have HS3 := hide hs3
 clear hs2 hs3 I2 I3 k2 k3 KZ X1 X
 go_enter Tryz.func155, Tryz.ntmps155
 go_wp2_with fail
 refine regionL 8 (fun w' => IsB w' w.heap.size (rsL e l r f).toArray 51) mixed RB.out (fun hHeld => ?_)
 generalize ((w.alloc (.cells (rsL e l r f).toArray 51)).drew) = WD at *
 refine pkA (v := ?_) 0 (some 4) rfl rfl ?_ (by assumption) ?_
 rotate_left
 · intro w'
   go_simp
   try with_reducible rfl
 try simp only [Act.put, zqa, zqb, zqc]
 refine pkA (v := ?_) 1 (some 5) rfl rfl ?_ (by assumption) ?_
 rotate_left
 · intro w'
   go_simp
   try with_reducible rfl
 try simp only [Act.put, zqa, zqb, zqc]
 refine pkL (v := .agg (rsL e l r f).toArray) 2 (some 6) rfl rfl ?_ (by assumption) ?_
 · intro w' hSw
   have q0 := hSw
   exact exec_load rfl rfl (load_res q0)
 try simp only [Act.put, zqa, zqb, zqc]
 refine pkA (v := ?_) 3 (some 7) rfl rfl ?_ (by assumption) ?_
 rotate_left
 · intro w'
   go_simp
   try with_reducible rfl
 try simp only [Act.put, zqa, zqb, zqc]
 refine pkA (v := ?_) 4 (some 8) rfl rfl ?_ (by assumption) ?_
 rotate_left
 · intro w'
   go_simp
   try with_reducible rfl
 try simp only [Act.put, zqa, zqb, zqc]
 refine oneL (i := 5) (by kernel_rfl) rfl (fun K hK => ?_)
 refine step_store_w rfl 4 (.tmp 8) (.const (.bool true)) rfl rfl rfl HS2.out ?_
 refine hK.out _ _ ?_ ?_
 · exact RB2.out
 clear hK K
 try simp only [Act.put, List.setIfInBounds_toArray]
 clear hHeld
 have hHeld : (fun w' => IsB w' w.heap.size (rsL e l r f).toArray 51) w2 := RB2.out
 refine pkA (v := ?_) 6 (some 9) rfl rfl ?_ (by assumption) ?_
 rotate_left
 · intro w'
   go_simp
   try with_reducible rfl
 try simp only [Act.put]
 refine pkA (v := ?_) 7 (some 10) rfl rfl ?_ (by assumption) ?_
 rotate_left
 · intro w'
   go_simp
   try with_reducible rfl
 try simp only [Act.put]
 refine lateL (i := 8) (by kernel_rfl) rfl (by decide) (by kernel_rfl) (fun K hK => ?_)
 refine step_store_w rfl 51 (.tmp 10) (.tmp 6) rfl rfl rfl HS3.out ?_
 refine hK.out _ _ ?_
 clear hK K
 try simp only [Act.put]
 refine doneL (by kernel_rfl) ?_ _
 clear hHeld
 refine bodyPost_end (results_none rfl _ _ _) rfl ?_
 exact ⟨rfl, F4.out⟩

/-- It is over: too often. -/
def Sk.busy (S : Sk) : Sk := { S with ov := true, e := 121, rl := zr, rr := zr, fd := false }

set_option maxHeartbeats 2000000 in
set_option maxRecDepth 100000 in
theorem again_yes (b m : Nat) (S : Sk) (ws : List (Pl × Rf)) (h0 : 0 ≤ S.n) (h1 : S.n < 64) (w : World) (X : SkAt w b m S ws) : Calls Tryz.prog 156 #[.pointer (some ⟨b, 0, none⟩)] w fun e w' => e = .returned (.bool true) ∧ SkAt w' b m { S with n := S.n + 1 } ws ∧ Kp [b, m] w w' := by
 have c21 := cl_n X.blk
 obtain ⟨w2, hs2, I2, k2⟩ := st_n X.blk (S.n + 1)
 have F4 : Hid (SkAt w2 b m { S with n := S.n + 1 } ws ∧ Kp [b, m] w w2) := ⟨X.turn k2 I2, k2.wide⟩
 have HS2 := hide hs2
 have hne : (S.n == 64) = false := by simp; omega
 have hw := wrap_small S.n h0 (by omega)
 clear hs2 I2 k2 X
 generalize S.n = n at *
 go_enter Tryz.func156, Tryz.ntmps156
 go_wp2_with (first | (focus ((with_reducible refine wpList_store_w ?_ 3 (.tmp 17) (.tmp 15) ?_ ?_ ?_ HS2.out ?_); rotate_left; rfl; rfl; rfl; rotate_left; rfl)))
 go_ret
 exact ⟨rfl, F4.out⟩

set_option maxHeartbeats 2000000 in
set_option maxRecDepth 100000 in
theorem again_no (b m : Nat) (S : Sk) (ws : List (Pl × Rf)) (h1 : S.n = 64) (w : World) (X : SkAt w b m S ws) : Calls Tryz.prog 156 #[.pointer (some ⟨b, 0, none⟩)] w fun e w' => e = .returned (.bool false) ∧ SkAt w' b m S.busy ws ∧ Kp [b, m] w w' := by
 have c21 := cl_n X.blk
 have EN := hide (end_any b m S ws 121 zr zr false w X)
 rw [h1] at c21
 clear X h1
 go_enter Tryz.func156, Tryz.ntmps156
 go_wp2_with fail
 refine EN.out.mono ?_
 rintro e w' ⟨rfl, hF⟩
 replace hF := hide hF
 clear EN c21
 go_wp2
 go_ret
 exact ⟨rfl, hF.out⟩

end Go.Proofs.YtokehogcenjefaaGreatDoor
