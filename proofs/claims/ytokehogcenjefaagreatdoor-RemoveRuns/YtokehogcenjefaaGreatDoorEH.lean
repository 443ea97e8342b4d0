/- The document's back, read, locked, Tell, Wake. -/
import Derived.Test.YtokehogcenjefaaGreatDoorEB
namespace Go.Proofs.YtokehogcenjefaaGreatDoor.Un
open Go.RowKit Go.Maps Go.ChangeMaps

/-- Free the left one, and what comes behind. -/
def _root_.Go.Proofs.YtokehogcenjefaaGreatDoor.Us.dback (S : Us) (h e : Int) : Us := { S with pl := 8, bh := h, e := e }

set_option maxHeartbeats 2000000 in
set_option maxRecDepth 100000 in
theorem back_any (b : Nat) (S : Us) (h e : Int) (w : World) (X : DsAt w b S) : Calls Tryz.prog 59 #[.pointer (some ⟨b, 0, none⟩), .int .i64 h, .int .i64 e] w fun e' w' => e' = .returned (.tuple #[]) ∧ DsAt w' b (S.dback h e) ∧ Kp [b] w w' := by
 have I := hide X
 have KZ := hide (Kp.refl [b] w)
 obtain ⟨w2, hs2, I2, k2⟩ := dst_at I.out 8
 have HS2 := hide hs2
 obtain ⟨w3, hs3, I3, k3⟩ := dst_bh I2 h
 have HS3 := hide hs3
 obtain ⟨w4, hs4, I4, k4⟩ := dst_e I3 e
 have HS4 := hide hs4
 have F6 := hide I4
 have K7 := hide (KZ.out.tr (k2.tr (k3.tr k4)))
 clear hs2 I2 k2 hs3 I3 k3 hs4 I4 k4
 clear I X
 go_enter Tryz.func59, Tryz.ntmps59
 go_wp2_with (first | (focus ((with_reducible refine wpList_store_w ?_ 3 (.tmp 12) (.const (.int .i64 8)) ?_ ?_ ?_ HS2.out ?_); rotate_left; rfl; rfl; rfl; rotate_left; rfl)) | (focus ((with_reducible refine wpList_store_w ?_ 3 (.tmp 14) (.tmp 9) ?_ ?_ ?_ HS3.out ?_); rotate_left; rfl; rfl; rfl; rotate_left; rfl)) | (focus ((with_reducible refine wpList_store_w ?_ 37 (.tmp 16) (.tmp 10) ?_ ?_ ?_ HS4.out ?_); rotate_left; rfl; rfl; rfl; rotate_left; rfl)))
 try go_wp2
 refine bodyPost_end (results_none rfl _ _ _) rfl ?_
 exact ⟨rfl, F6.out, K7.out⟩

/-- Told who stands to its left. -/
def _root_.Go.Proofs.YtokehogcenjefaaGreatDoor.Us.dread (S : Us) (a : An) : Us := if a.k = 1 ∧ klt (a.l.rk, a.l.kn) (S.me.rk, S.me.kn) = true then { S with lf := a.l, pl := 2 } else if a.k = 2 then { S with pl := 10 } else if a.k = 3 then { S with pl := 10, e := 132 } else { S with pl := 9 }

set_option maxHeartbeats 2000000 in
set_option maxRecDepth 100000 in
theorem dread_go (b : Nat) (S : Us) (a : An) (hk : a.k = 1) (hl : klt (a.l.rk, a.l.kn) (S.me.rk, S.me.kn) = true) (w : World) (X : DsAt w b S) : Calls Tryz.prog 58 #[.pointer (some ⟨b, 0, none⟩), .agg (anL a).toArray] w fun e' w' => e' = .returned (.tuple #[]) ∧ DsAt w' b ({ S with lf := a.l, pl := 2 }) ∧ Kp [b] w w' := by
 have mixed : Tryz.prog.follows .mixedOrders = true := by kernel_rfl
 have b1 := (Below.refl w.heap.size w).alloc (Nat.le_refl _) (.cells (anL a).toArray 62)
 have A := hide (IsB.new w (anL a).toArray 62)
 have y0 : (w.alloc (.cells (anL a).toArray 62)).cell? ⟨w.heap.size, 0, none⟩ = some (.int .i64 a.k) := cl_ak A.out
 have I := hide (IsB.below X b1)
 have KZ : Hid (Kp [b] w (w.alloc (.cells (anL a).toArray 62))) := Kp.of_below b1
 clear b1 X
 rw [hk] at y0
 replace hk := hide hk
 have HL := hide hl
 clear hl
 go_enter Tryz.func58, Tryz.ntmps58
 go_wp2_with fail
 generalize (w.alloc (.cells (anL a).toArray 62)) = WA at *
 obtain ⟨H, hH⟩ : ∃ H, w.heap.size = H := ⟨_, rfl⟩
 rw [hH] at A y0 ⊢
 replace hH := hide hH
 clear y0
 have ID := hide (I.out.below ((Below.refl _ _).drew))
 have AD := hide (A.out.below ((Below.refl _ _).drew))
 have KD := hide (KZ.out.bel ((Below.refl _ _).drew))
 clear I A KZ
 refine regionL 16 (fun w' => DsAt w' b S ∧ IsB w' H (anL a).toArray 62) mixed ⟨ID.out, AD.out⟩ (fun hHeld => ?_)
 generalize WA.drew = WD2 at *
 refine pkA (v := ?_) 0 (some 8) rfl rfl ?_ (by assumption) ?_
 rotate_left
 · intro w'
   go_simp
   try with_reducible rfl
 try simp only [Act.put, zqa, zqb, zqc]
 refine pkL (v := ?_) 1 (some 9) rfl rfl ?_ (by assumption) ?_
 rotate_left
 · intro w' hSw
   obtain ⟨q0, q1⟩ := hSw
   have z0 := cl_ak q1
   rw [hk.out] at z0
   go_simp
   try with_reducible rfl
 try simp only [Act.put, zqa, zqb, zqc]
 refine pkA (v := ?_) 2 (some 10) rfl rfl ?_ (by assumption) ?_
 rotate_left
 · intro w'
   go_simp
   try with_reducible rfl
 try simp only [Act.put, zqa, zqb, zqc]
 refine pkA (v := ?_) 3 (some 11) rfl rfl ?_ (by assumption) ?_
 rotate_left
 · intro w'
   go_simp
   try with_reducible rfl
 try simp only [Act.put, zqa, zqb, zqc]
 refine pkA (v := ?_) 4 (some 12) rfl rfl ?_ (by assumption) ?_
 rotate_left
 · intro w'
   go_simp
   try with_reducible rfl
 try simp only [Act.put, zqa, zqb, zqc]
 refine pkA (v := ?_) 5 (some 13) rfl rfl ?_ (by assumption) ?_
 rotate_left
 · intro w'
   go_simp
   try with_reducible rfl
 try simp only [Act.put, zqa, zqb, zqc]
 refine pkL (v := .agg #[.int .i64 a.l.rk, .int .u64 a.l.kn]) 6 (some 14) rfl rfl ?_ (by assumption) ?_
 · intro w' hSw
   obtain ⟨q0, q1⟩ := hSw
   have z0 := cl_ak q1
   rw [hk.out] at z0
   exact exec_load rfl rfl (ld_ualk q1)
 try simp only [Act.put, zqa, zqb, zqc]
 refine pkA (v := ?_) 7 (some 15) rfl rfl ?_ (by assumption) ?_
 rotate_left
 · intro w'
   go_simp
   try with_reducible rfl
 try simp only [Act.put, zqa, zqb, zqc]
 refine pkA (v := ?_) 8 (some 16) rfl rfl ?_ (by assumption) ?_
 rotate_left
 · intro w'
   go_simp
   try with_reducible rfl
 try simp only [Act.put, zqa, zqb, zqc]
 refine pkA (v := ?_) 9 (some 17) rfl rfl ?_ (by assumption) ?_
 rotate_left
 · intro w'
   go_simp
   try with_reducible rfl
 try simp only [Act.put, zqa, zqb, zqc]
 refine pkA (v := ?_) 10 (some 18) rfl rfl ?_ (by assumption) ?_
 rotate_left
 · intro w'
   go_simp
   try with_reducible rfl
 try simp only [Act.put, zqa, zqb, zqc]
 refine pkA (v := ?_) 11 (some 19) rfl rfl ?_ (by assumption) ?_
 rotate_left
 · intro w'
   go_simp
   try with_reducible rfl
 try simp only [Act.put, zqa, zqb, zqc]
 refine pkL (v := .agg #[.int .i64 S.me.rk, .int .u64 S.me.kn]) 12 (some 20) rfl rfl ?_ (by assumption) ?_
 · intro w' hSw
   obtain ⟨q0, q1⟩ := hSw
   have z0 := cl_ak q1
   rw [hk.out] at z0
   exact exec_load rfl rfl (dld_mek q0)
 try simp only [Act.put, zqa, zqb, zqc]
 refine oneL (i := 13) (by kernel_rfl) rfl (fun K hK => ?_)
 go_simp
 refine (rLess_any a.l.rk a.l.kn S.me.rk S.me.kn WD2).mono ?_
 rintro e' w2 ⟨rfl, hg⟩
 rw [HL.out]
 have I := hide (ID.out.below hg.below)
 have A := hide (AD.out.below hg.below)
 have KZ := hide (KD.out.bel hg.below)
 clear hg
 refine hK.out _ _ ?_ ?_
 · exact ⟨I.out, A.out⟩
 clear hK K
 try simp only [Act.put, zqa, zqb, zqc]
 clear hHeld
 have hHeld : (fun w' => DsAt w' b S ∧ IsB w' H (anL a).toArray 62) w2 := ⟨I.out, A.out⟩
 refine pkA (v := ?_) 14 (some 22) rfl rfl ?_ (by assumption) ?_
 rotate_left
 · intro w'
   go_simp
   try with_reducible rfl
 try simp only [Act.put, zqa, zqb, zqc]
 refine pkA (v := ?_) 15 (some 7) rfl rfl ?_ (by assumption) ?_
 rotate_left
 · intro w'
   go_simp
   try with_reducible rfl
 try simp only [Act.put, zqa, zqb, zqc]
 refine doneL (by kernel_rfl) ?_ _
 clear hHeld
 clear ID AD KD
 obtain ⟨w3, hs3, I3, k3⟩ := dst_left I.out a.l
 have HS3 := hide hs3
 obtain ⟨w4, hs4, I4, k4⟩ := dst_at I3 2
 have HS4 := hide hs4
 have F6 := hide I4
 have K7 := hide (KZ.out.tr (k3.tr k4))
 clear hs3 I3 k3 hs4 I4 k4
 have LR := hide (ld_al A.out)
 go_wp2_with (first | (focus ((with_reducible refine wpList_load_w ?_ 29 (.tmp 25) ?_ ?_ LR.out ?_); rotate_left; rfl; rfl; rotate_left; rfl)) | (focus ((with_reducible refine wpList_store_w ?_ 29 (.tmp 28) (.tmp 26) ?_ ?_ ?_ HS3.out ?_); rotate_left; rfl; rfl; rfl; rotate_left; rfl)) | (focus ((with_reducible refine wpList_store_w ?_ 3 (.tmp 30) (.const (.int .i64 2)) ?_ ?_ ?_ HS4.out ?_); rotate_left; rfl; rfl; rfl; rotate_left; rfl)))
 try go_wp2
 refine bodyPost_end (results_none rfl _ _ _) rfl ?_
 exact ⟨rfl, F6.out, K7.out⟩

set_option maxHeartbeats 2000000 in
set_option maxRecDepth 100000 in
theorem dread_no1 (b : Nat) (S : Us) (a : An) (hk : a.k = 1) (hl : klt (a.l.rk, a.l.kn) (S.me.rk, S.me.kn) = false) (w : World) (X : DsAt w b S) : Calls Tryz.prog 58 #[.pointer (some ⟨b, 0, none⟩), .agg (anL a).toArray] w fun e' w' => e' = .returned (.tuple #[]) ∧ DsAt w' b ({ S with pl := 9 }) ∧ Kp [b] w w' := by
 have mixed : Tryz.prog.follows .mixedOrders = true := by kernel_rfl
 have b1 := (Below.refl w.heap.size w).alloc (Nat.le_refl _) (.cells (anL a).toArray 62)
 have A := hide (IsB.new w (anL a).toArray 62)
 have y0 : (w.alloc (.cells (anL a).toArray 62)).cell? ⟨w.heap.size, 0, none⟩ = some (.int .i64 a.k) := cl_ak A.out
 have I := hide (IsB.below X b1)
 have KZ : Hid (Kp [b] w (w.alloc (.cells (anL a).toArray 62))) := Kp.of_below b1
 clear b1 X
 rw [hk] at y0
 replace hk := hide hk
 have HL := hide hl
 clear hl
 go_enter Tryz.func58, Tryz.ntmps58
 go_wp2_with fail
 generalize (w.alloc (.cells (anL a).toArray 62)) = WA at *
 obtain ⟨H, hH⟩ : ∃ H, w.heap.size = H := ⟨_, rfl⟩
 rw [hH] at A y0 ⊢
 replace hH := hide hH
 clear y0
 have ID := hide (I.out.below ((Below.refl _ _).drew))
 have AD := hide (A.out.below ((Below.refl _ _).drew))
 have KD := hide (KZ.out.bel ((Below.refl _ _).drew))
 clear I A KZ
 refine regionL 16 (fun w' => DsAt w' b S ∧ IsB w' H (anL a).toArray 62) mixed ⟨ID.out, AD.out⟩ (fun hHeld => ?_)
 generalize WA.drew = WD2 at *
 refine pkA (v := ?_) 0 (some 8) rfl rfl ?_ (by assumption) ?_
 rotate_left
 · intro w'
   go_simp
   try with_reducible rfl
 try simp only [Act.put, zqa, zqb, zqc]
 refine pkL (v := ?_) 1 (some 9) rfl rfl ?_ (by assumption) ?_
 rotate_left
 · intro w' hSw
   obtain ⟨q0, q1⟩ := hSw
   have z0 := cl_ak q1
   rw [hk.out] at z0
   go_simp
   try with_reducible rfl
 try simp only [Act.put, zqa, zqb, zqc]
 refine pkA (v := ?_) 2 (some 10) rfl rfl ?_ (by assumption) ?_
 rotate_left
 · intro w'
   go_simp
   try with_reducible rfl
 try simp only [Act.put, zqa, zqb, zqc]
 refine pkA (v := ?_) 3 (some 11) rfl rfl ?_ (by assumption) ?_
 rotate_left
 · intro w'
   go_simp
   try with_reducible rfl
 try simp only [Act.put, zqa, zqb, zqc]
 refine pkA (v := ?_) 4 (some 12) rfl rfl ?_ (by assumption) ?_
 rotate_left
 · intro w'
   go_simp
   try with_reducible rfl
 try simp only [Act.put, zqa, zqb, zqc]
 refine pkA (v := ?_) 5 (some 13) rfl rfl ?_ (by assumption) ?_
 rotate_left
 · intro w'
   go_simp
   try with_reducible rfl
 try simp only [Act.put, zqa, zqb, zqc]
 refine pkL (v := .agg #[.int .i64 a.l.rk, .int .u64 a.l.kn]) 6 (some 14) rfl rfl ?_ (by assumption) ?_
 · intro w' hSw
   obtain ⟨q0, q1⟩ := hSw
   have z0 := cl_ak q1
   rw [hk.out] at z0
   exact exec_load rfl rfl (ld_ualk q1)
 try simp only [Act.put, zqa, zqb, zqc]
 refine pkA (v := ?_) 7 (some 15) rfl rfl ?_ (by assumption) ?_
 rotate_left
 · intro w'
   go_simp
   try with_reducible rfl
 try simp only [Act.put, zqa, zqb, zqc]
 refine pkA (v := ?_) 8 (some 16) rfl rfl ?_ (by assumption) ?_
 rotate_left
 · intro w'
   go_simp
   try with_reducible rfl
 try simp only [Act.put, zqa, zqb, zqc]
 refine pkA (v := ?_) 9 (some 17) rfl rfl ?_ (by assumption) ?_
 rotate_left
 · intro w'
   go_simp
   try with_reducible rfl
 try simp only [Act.put, zqa, zqb, zqc]
 refine pkA (v := ?_) 10 (some 18) rfl rfl ?_ (by assumption) ?_
 rotate_left
 · intro w'
   go_simp
   try with_reducible rfl
 try simp only [Act.put, zqa, zqb, zqc]
 refine pkA (v := ?_) 11 (some 19) rfl rfl ?_ (by assumption) ?_
 rotate_left
 · intro w'
   go_simp
   try with_reducible rfl
 try simp only [Act.put, zqa, zqb, zqc]
 refine pkL (v := .agg #[.int .i64 S.me.rk, .int .u64 S.me.kn]) 12 (some 20) rfl rfl ?_ (by assumption) ?_
 · intro w' hSw
   obtain ⟨q0, q1⟩ := hSw
   have z0 := cl_ak q1
   rw [hk.out] at z0
   exact exec_load rfl rfl (dld_mek q0)
 try simp only [Act.put, zqa, zqb, zqc]
 refine oneL (i := 13) (by kernel_rfl) rfl (fun K hK => ?_)
 go_simp
 refine (rLess_any a.l.rk a.l.kn S.me.rk S.me.kn WD2).mono ?_
 rintro e' w2 ⟨rfl, hg⟩
 rw [HL.out]
 have I := hide (ID.out.below hg.below)
 have A := hide (AD.out.below hg.below)
 have KZ := hide (KD.out.bel hg.below)
 clear hg
 refine hK.out _ _ ?_ ?_
 · exact ⟨I.out, A.out⟩
 clear hK K
 try simp only [Act.put, zqa, zqb, zqc]
 clear hHeld
 have hHeld : (fun w' => DsAt w' b S ∧ IsB w' H (anL a).toArray 62) w2 := ⟨I.out, A.out⟩
 refine pkA (v := ?_) 14 (some 22) rfl rfl ?_ (by assumption) ?_
 rotate_left
 · intro w'
   go_simp
   try with_reducible rfl
 try simp only [Act.put, zqa, zqb, zqc]
 refine pkA (v := ?_) 15 (some 7) rfl rfl ?_ (by assumption) ?_
 rotate_left
 · intro w'
   go_simp
   try with_reducible rfl
 try simp only [Act.put, zqa, zqb, zqc]
 refine doneL (by kernel_rfl) ?_ _
 clear hHeld
 clear ID AD KD
 have y0 := cl_ak A.out
 rw [hk.out] at y0
 obtain ⟨w3, hs3, I3, k3⟩ := dst_at I.out 9
 have HS3 := hide hs3
 have F6 := hide I3
 have K7 := hide (KZ.out.tr k3)
 clear hs3 I3 k3
 go_wp2_with (first | (focus ((with_reducible refine wpList_store_w ?_ 3 (.tmp 6) (.const (.int .i64 9)) ?_ ?_ ?_ HS3.out ?_); rotate_left; rfl; rfl; rfl; rotate_left; rfl)))
 try go_wp2
 refine bodyPost_end (results_none rfl _ _ _) rfl ?_
 exact ⟨rfl, F6.out, K7.out⟩

set_option maxHeartbeats 2000000 in
set_option maxRecDepth 100000 in
theorem dread_2 (b : Nat) (S : Us) (a : An) (hk : a.k = 2) (w : World) (X : DsAt w b S) : Calls Tryz.prog 58 #[.pointer (some ⟨b, 0, none⟩), .agg (anL a).toArray] w fun e' w' => e' = .returned (.tuple #[]) ∧ DsAt w' b ({ S with pl := 10 }) ∧ Kp [b] w w' := by
 have mixed : Tryz.prog.follows .mixedOrders = true := by kernel_rfl
 have b1 := (Below.refl w.heap.size w).alloc (Nat.le_refl _) (.cells (anL a).toArray 62)
 have A := hide (IsB.new w (anL a).toArray 62)
 have y0 : (w.alloc (.cells (anL a).toArray 62)).cell? ⟨w.heap.size, 0, none⟩ = some (.int .i64 a.k) := cl_ak A.out
 have I := hide (IsB.below X b1)
 have KZ : Hid (Kp [b] w (w.alloc (.cells (anL a).toArray 62))) := Kp.of_below b1
 clear b1 X
 rw [hk] at y0
 replace hk := hide hk
 go_enter Tryz.func58, Tryz.ntmps58
 go_wp2_with fail
 generalize (w.alloc (.cells (anL a).toArray 62)) = WA at *
 obtain ⟨H, hH⟩ : ∃ H, w.heap.size = H := ⟨_, rfl⟩
 rw [hH] at A y0 ⊢
 replace hH := hide hH
 clear y0
 have ID := hide (I.out.below ((Below.refl _ _).drew))
 have AD := hide (A.out.below ((Below.refl _ _).drew))
 have KD := hide (KZ.out.bel ((Below.refl _ _).drew))
 clear I A KZ
 refine regionL 16 (fun w' => DsAt w' b S ∧ IsB w' H (anL a).toArray 62) mixed ⟨ID.out, AD.out⟩ (fun hHeld => ?_)
 generalize WA.drew = WD2 at *
 refine pkA (v := ?_) 0 (some 8) rfl rfl ?_ (by assumption) ?_
 rotate_left
 · intro w'
   go_simp
   try with_reducible rfl
 try simp only [Act.put, zqa, zqb, zqc]
 refine pkL (v := ?_) 1 (some 9) rfl rfl ?_ (by assumption) ?_
 rotate_left
 · intro w' hSw
   obtain ⟨q0, q1⟩ := hSw
   have z0 := cl_ak q1
   rw [hk.out] at z0
   go_simp
   try with_reducible rfl
 try simp only [Act.put, zqa, zqb, zqc]
 refine pkA (v := ?_) 2 (some 10) rfl rfl ?_ (by assumption) ?_
 rotate_left
 · intro w'
   go_simp
   try with_reducible rfl
 try simp only [Act.put, zqa, zqb, zqc]
 refine pkA (v := ?_) 3 (some 11) rfl rfl ?_ (by assumption) ?_
 rotate_left
 · intro w'
   go_simp
   try with_reducible rfl
 try simp only [Act.put, zqa, zqb, zqc]
 refine pickN 4 (some 12) rfl rfl (by kernel_rfl) (by kernel_rfl) (by kernel_rfl) (by decide) (fun _ _ _ h => h) (by rfl) (by assumption) ?_
 try simp only [Act.put, zqa, zqb, zqc]
 refine pickN 5 (some 13) rfl rfl (by kernel_rfl) (by kernel_rfl) (by kernel_rfl) (by decide) (fun _ _ _ h => h) (by rfl) (by assumption) ?_
 try simp only [Act.put, zqa, zqb, zqc]
 refine pickN 6 (some 14) rfl rfl (by kernel_rfl) (by kernel_rfl) (by kernel_rfl) (by decide) (fun _ _ _ h => h) (by rfl) (by assumption) ?_
 try simp only [Act.put, zqa, zqb, zqc]
 refine pickN 7 (some 15) rfl rfl (by kernel_rfl) (by kernel_rfl) (by kernel_rfl) (by decide) (fun _ _ _ h => h) (by rfl) (by assumption) ?_
 try simp only [Act.put, zqa, zqb, zqc]
 refine pickN 8 (some 16) rfl rfl (by kernel_rfl) (by kernel_rfl) (by kernel_rfl) (by decide) (fun _ _ _ h => h) (by rfl) (by assumption) ?_
 try simp only [Act.put, zqa, zqb, zqc]
 refine pickN 9 (some 17) rfl rfl (by kernel_rfl) (by kernel_rfl) (by kernel_rfl) (by decide) (fun _ _ _ h => h) (by rfl) (by assumption) ?_
 try simp only [Act.put, zqa, zqb, zqc]
 refine pickN 10 (some 18) rfl rfl (by kernel_rfl) (by kernel_rfl) (by kernel_rfl) (by decide) (fun _ _ _ h => h) (by rfl) (by assumption) ?_
 try simp only [Act.put, zqa, zqb, zqc]
 refine pickN 11 (some 19) rfl rfl (by kernel_rfl) (by kernel_rfl) (by kernel_rfl) (by decide) (fun _ _ _ h => h) (by rfl) (by assumption) ?_
 try simp only [Act.put, zqa, zqb, zqc]
 refine pickN 12 (some 20) rfl rfl (by kernel_rfl) (by kernel_rfl) (by kernel_rfl) (by decide) (fun _ _ _ h => h) (by rfl) (by assumption) ?_
 try simp only [Act.put, zqa, zqb, zqc]
 refine pickN 13 (some 21) rfl rfl (by kernel_rfl) (by kernel_rfl) (by kernel_rfl) (by decide) (fun _ _ _ h => h) (by rfl) (by assumption) ?_
 try simp only [Act.put, zqa, zqb, zqc]
 refine pkA (v := ?_) 14 (some 22) rfl rfl ?_ (by assumption) ?_
 rotate_left
 · intro w'
   go_simp
   try with_reducible rfl
 try simp only [Act.put, zqa, zqb, zqc]
 refine pkA (v := ?_) 15 (some 7) rfl rfl ?_ (by assumption) ?_
 rotate_left
 · intro w'
   go_simp
   try with_reducible rfl
 try simp only [Act.put, zqa, zqb, zqc]
 refine doneL (by kernel_rfl) ?_ _
 clear hHeld
 have I := ID
 have A := AD
 have KZ := KD
 clear ID AD KD
 have y0 := cl_ak A.out
 rw [hk.out] at y0
 obtain ⟨w3, hs3, I3, k3⟩ := dst_at I.out 10
 have HS3 := hide hs3
 have F6 := hide I3
 have K7 := hide (KZ.out.tr k3)
 clear hs3 I3 k3
 go_wp2_with (first | (focus ((with_reducible refine wpList_store_w ?_ 3 (.tmp 37) (.const (.int .i64 10)) ?_ ?_ ?_ HS3.out ?_); rotate_left; rfl; rfl; rfl; rotate_left; rfl)))
 try go_wp2
 refine bodyPost_end (results_none rfl _ _ _) rfl ?_
 exact ⟨rfl, F6.out, K7.out⟩

set_option maxHeartbeats 2000000 in
set_option maxRecDepth 100000 in
theorem dread_3 (b : Nat) (S : Us) (a : An) (hk : a.k = 3) (w : World) (X : DsAt w b S) : Calls Tryz.prog 58 #[.pointer (some ⟨b, 0, none⟩), .agg (anL a).toArray] w fun e' w' => e' = .returned (.tuple #[]) ∧ DsAt w' b ({ S with pl := 10, e := 132 }) ∧ Kp [b] w w' := by
 have mixed : Tryz.prog.follows .mixedOrders = true := by kernel_rfl
 have b1 := (Below.refl w.heap.size w).alloc (Nat.le_refl _) (.cells (anL a).toArray 62)
 have A := hide (IsB.new w (anL a).toArray 62)
 have y0 : (w.alloc (.cells (anL a).toArray 62)).cell? ⟨w.heap.size, 0, none⟩ = some (.int .i64 a.k) := cl_ak A.out
 have I := hide (IsB.below X b1)
 have KZ : Hid (Kp [b] w (w.alloc (.cells (anL a).toArray 62))) := Kp.of_below b1
 clear b1 X
 rw [hk] at y0
 replace hk := hide hk
 go_enter Tryz.func58, Tryz.ntmps58
 go_wp2_with fail
 generalize (w.alloc (.cells (anL a).toArray 62)) = WA at *
 obtain ⟨H, hH⟩ : ∃ H, w.heap.size = H := ⟨_, rfl⟩
 rw [hH] at A y0 ⊢
 replace hH := hide hH
 clear y0
 have ID := hide (I.out.below ((Below.refl _ _).drew))
 have AD := hide (A.out.below ((Below.refl _ _).drew))
 have KD := hide (KZ.out.bel ((Below.refl _ _).drew))
 clear I A KZ
 refine regionL 16 (fun w' => DsAt w' b S ∧ IsB w' H (anL a).toArray 62) mixed ⟨ID.out, AD.out⟩ (fun hHeld => ?_)
 generalize WA.drew = WD2 at *
 refine pkA (v := ?_) 0 (some 8) rfl rfl ?_ (by assumption) ?_
 rotate_left
 · intro w'
   go_simp
   try with_reducible rfl
 try simp only [Act.put, zqa, zqb, zqc]
 refine pkL (v := ?_) 1 (some 9) rfl rfl ?_ (by assumption) ?_
 rotate_left
 · intro w' hSw
   obtain ⟨q0, q1⟩ := hSw
   have z0 := cl_ak q1
   rw [hk.out] at z0
   go_simp
   try with_reducible rfl
 try simp only [Act.put, zqa, zqb, zqc]
 refine pkA (v := ?_) 2 (some 10) rfl rfl ?_ (by assumption) ?_
 rotate_left
 · intro w'
   go_simp
   try with_reducible rfl
 try simp only [Act.put, zqa, zqb, zqc]
 refine pkA (v := ?_) 3 (some 11) rfl rfl ?_ (by assumption) ?_
 rotate_left
 · intro w'
   go_simp
   try with_reducible rfl
 try simp only [Act.put, zqa, zqb, zqc]
 refine pickN 4 (some 12) rfl rfl (by kernel_rfl) (by kernel_rfl) (by kernel_rfl) (by decide) (fun _ _ _ h => h) (by rfl) (by assumption) ?_
 try simp only [Act.put, zqa, zqb, zqc]
 refine pickN 5 (some 13) rfl rfl (by kernel_rfl) (by kernel_rfl) (by kernel_rfl) (by decide) (fun _ _ _ h => h) (by rfl) (by assumption) ?_
 try simp only [Act.put, zqa, zqb, zqc]
 refine pickN 6 (some 14) rfl rfl (by kernel_rfl) (by kernel_rfl) (by kernel_rfl) (by decide) (fun _ _ _ h => h) (by rfl) (by assumption) ?_
 try simp only [Act.put, zqa, zqb, zqc]
 refine pickN 7 (some 15) rfl rfl (by kernel_rfl) (by kernel_rfl) (by kernel_rfl) (by decide) (fun _ _ _ h => h) (by rfl) (by assumption) ?_
 try simp only [Act.put, zqa, zqb, zqc]
 refine pickN 8 (some 16) rfl rfl (by kernel_rfl) (by kernel_rfl) (by kernel_rfl) (by decide) (fun _ _ _ h => h) (by rfl) (by assumption) ?_
 try simp only [Act.put, zqa, zqb, zqc]
 refine pickN 9 (some 17) rfl rfl (by kernel_rfl) (by kernel_rfl) (by kernel_rfl) (by decide) (fun _ _ _ h => h) (by rfl) (by assumption) ?_
 try simp only [Act.put, zqa, zqb, zqc]
 refine pickN 10 (some 18) rfl rfl (by kernel_rfl) (by kernel_rfl) (by kernel_rfl) (by decide) (fun _ _ _ h => h) (by rfl) (by assumption) ?_
 try simp only [Act.put, zqa, zqb, zqc]
 refine pickN 11 (some 19) rfl rfl (by kernel_rfl) (by kernel_rfl) (by kernel_rfl) (by decide) (fun _ _ _ h => h) (by rfl) (by assumption) ?_
 try simp only [Act.put, zqa, zqb, zqc]
 refine pickN 12 (some 20) rfl rfl (by kernel_rfl) (by kernel_rfl) (by kernel_rfl) (by decide) (fun _ _ _ h => h) (by rfl) (by assumption) ?_
 try simp only [Act.put, zqa, zqb, zqc]
 refine pickN 13 (some 21) rfl rfl (by kernel_rfl) (by kernel_rfl) (by kernel_rfl) (by decide) (fun _ _ _ h => h) (by rfl) (by assumption) ?_
 try simp only [Act.put, zqa, zqb, zqc]
 refine pkA (v := ?_) 14 (some 22) rfl rfl ?_ (by assumption) ?_
 rotate_left
 · intro w'
   go_simp
   try with_reducible rfl
 try simp only [Act.put, zqa, zqb, zqc]
 refine pkA (v := ?_) 15 (some 7) rfl rfl ?_ (by assumption) ?_
 rotate_left
 · intro w'
   go_simp
   try with_reducible rfl
 try simp only [Act.put, zqa, zqb, zqc]
 refine doneL (by kernel_rfl) ?_ _
 clear hHeld
 have I := ID
 have A := AD
 have KZ := KD
 clear ID AD KD
 have y0 := cl_ak A.out
 rw [hk.out] at y0
 obtain ⟨w3, hs3, I3, k3⟩ := dst_at I.out 10
 have HS3 := hide hs3
 obtain ⟨w4, hs4, I4, k4⟩ := dst_e I3 132
 have HS4 := hide hs4
 have F6 := hide I4
 have K7 := hide (KZ.out.tr (k3.tr k4))
 clear hs3 I3 k3 hs4 I4 k4
 go_wp2_with (first | (focus ((with_reducible refine wpList_store_w ?_ 3 (.tmp 45) (.const (.int .i64 10)) ?_ ?_ ?_ HS3.out ?_); rotate_left; rfl; rfl; rfl; rotate_left; rfl)) | (focus ((with_reducible refine wpList_store_w ?_ 37 (.tmp 47) (.const (.int .i64 132)) ?_ ?_ ?_ HS4.out ?_); rotate_left; rfl; rfl; rfl; rotate_left; rfl)))
 try go_wp2
 refine bodyPost_end (results_none rfl _ _ _) rfl ?_
 exact ⟨rfl, F6.out, K7.out⟩

set_option maxHeartbeats 2000000 in
set_option maxRecDepth 100000 in
theorem dread_no (b : Nat) (S : Us) (a : An) (hk1 : ¬a.k = 1) (hk2 : ¬a.k = 2) (hk3 : ¬a.k = 3) (w : World) (X : DsAt w b S) : Calls Tryz.prog 58 #[.pointer (some ⟨b, 0, none⟩), .agg (anL a).toArray] w fun e' w' => e' = .returned (.tuple #[]) ∧ DsAt w' b ({ S with pl := 9 }) ∧ Kp [b] w w' := by
 have mixed : Tryz.prog.follows .mixedOrders = true := by kernel_rfl
 have b1 := (Below.refl w.heap.size w).alloc (Nat.le_refl _) (.cells (anL a).toArray 62)
 have A := hide (IsB.new w (anL a).toArray 62)
 have y0 : (w.alloc (.cells (anL a).toArray 62)).cell? ⟨w.heap.size, 0, none⟩ = some (.int .i64 a.k) := cl_ak A.out
 have I := hide (IsB.below X b1)
 have KZ : Hid (Kp [b] w (w.alloc (.cells (anL a).toArray 62))) := Kp.of_below b1
 clear b1 X
 have e1 : (a.k == 1) = false := by simpa using hk1
 have e2 : (a.k == 2) = false := by simpa using hk2
 have e3 : (a.k == 3) = false := by simpa using hk3
 go_enter Tryz.func58, Tryz.ntmps58
 go_wp2_with fail
 generalize (w.alloc (.cells (anL a).toArray 62)) = WA at *
 obtain ⟨H, hH⟩ : ∃ H, w.heap.size = H := ⟨_, rfl⟩
 rw [hH] at A y0 ⊢
 replace hH := hide hH
 clear y0
 have ID := hide (I.out.below ((Below.refl _ _).drew))
 have AD := hide (A.out.below ((Below.refl _ _).drew))
 have KD := hide (KZ.out.bel ((Below.refl _ _).drew))
 clear I A KZ
 refine regionL 16 (fun w' => DsAt w' b S ∧ IsB w' H (anL a).toArray 62) mixed ⟨ID.out, AD.out⟩ (fun hHeld => ?_)
 generalize WA.drew = WD2 at *
 refine pkA (v := ?_) 0 (some 8) rfl rfl ?_ (by assumption) ?_
 rotate_left
 · intro w'
   go_simp
   try with_reducible rfl
 try simp only [Act.put, zqa, zqb, zqc]
 refine pkL (v := ?_) 1 (some 9) rfl rfl ?_ (by assumption) ?_
 rotate_left
 · intro w' hSw
   obtain ⟨q0, q1⟩ := hSw
   have z0 := cl_ak q1
   skip
   go_simp
   try with_reducible rfl
 try simp only [Act.put, zqa, zqb, zqc]
 refine pkA (v := ?_) 2 (some 10) rfl rfl ?_ (by assumption) ?_
 rotate_left
 · intro w'
   go_simp
   try with_reducible rfl
 try simp only [Act.put, zqa, zqb, zqc]
 refine pkA (v := ?_) 3 (some 11) rfl rfl ?_ (by assumption) ?_
 rotate_left
 · intro w'
   go_simp
   try with_reducible rfl
 try simp only [Act.put, zqa, zqb, zqc]
 refine pickN 4 (some 12) rfl rfl (by kernel_rfl) (by kernel_rfl) (by kernel_rfl) (by decide) (fun _ _ _ h => h) (by rfl) (by assumption) ?_
 try simp only [Act.put, zqa, zqb, zqc]
 refine pickN 5 (some 13) rfl rfl (by kernel_rfl) (by kernel_rfl) (by kernel_rfl) (by decide) (fun _ _ _ h => h) (by rfl) (by assumption) ?_
 try simp only [Act.put, zqa, zqb, zqc]
 refine pickN 6 (some 14) rfl rfl (by kernel_rfl) (by kernel_rfl) (by kernel_rfl) (by decide) (fun _ _ _ h => h) (by rfl) (by assumption) ?_
 try simp only [Act.put, zqa, zqb, zqc]
 refine pickN 7 (some 15) rfl rfl (by kernel_rfl) (by kernel_rfl) (by kernel_rfl) (by decide) (fun _ _ _ h => h) (by rfl) (by assumption) ?_
 try simp only [Act.put, zqa, zqb, zqc]
 refine pickN 8 (some 16) rfl rfl (by kernel_rfl) (by kernel_rfl) (by kernel_rfl) (by decide) (fun _ _ _ h => h) (by rfl) (by assumption) ?_
 try simp only [Act.put, zqa, zqb, zqc]
 refine pickN 9 (some 17) rfl rfl (by kernel_rfl) (by kernel_rfl) (by kernel_rfl) (by decide) (fun _ _ _ h => h) (by rfl) (by assumption) ?_
 try simp only [Act.put, zqa, zqb, zqc]
 refine pickN 10 (some 18) rfl rfl (by kernel_rfl) (by kernel_rfl) (by kernel_rfl) (by decide) (fun _ _ _ h => h) (by rfl) (by assumption) ?_
 try simp only [Act.put, zqa, zqb, zqc]
 refine pickN 11 (some 19) rfl rfl (by kernel_rfl) (by kernel_rfl) (by kernel_rfl) (by decide) (fun _ _ _ h => h) (by rfl) (by assumption) ?_
 try simp only [Act.put, zqa, zqb, zqc]
 refine pickN 12 (some 20) rfl rfl (by kernel_rfl) (by kernel_rfl) (by kernel_rfl) (by decide) (fun _ _ _ h => h) (by rfl) (by assumption) ?_
 try simp only [Act.put, zqa, zqb, zqc]
 refine pickN 13 (some 21) rfl rfl (by kernel_rfl) (by kernel_rfl) (by kernel_rfl) (by decide) (fun _ _ _ h => h) (by rfl) (by assumption) ?_
 try simp only [Act.put, zqa, zqb, zqc]
 refine pkA (v := ?_) 14 (some 22) rfl rfl ?_ (by assumption) ?_
 rotate_left
 · intro w'
   go_simp
   try with_reducible rfl
 try simp only [Act.put, zqa, zqb, zqc]
 refine pkA (v := ?_) 15 (some 7) rfl rfl ?_ (by assumption) ?_
 rotate_left
 · intro w'
   go_simp
   try with_reducible rfl
 try simp only [Act.put, zqa, zqb, zqc]
 refine doneL (by kernel_rfl) ?_ _
 clear hHeld
 have I := ID
 have A := AD
 have KZ := KD
 clear ID AD KD
 have y0 := cl_ak A.out
 obtain ⟨w3, hs3, I3, k3⟩ := dst_at I.out 9
 have HS3 := hide hs3
 have F6 := hide I3
 have K7 := hide (KZ.out.tr k3)
 clear hs3 I3 k3
 go_wp2_with (first | (focus ((with_reducible refine wpList_store_w ?_ 3 (.tmp 6) (.const (.int .i64 9)) ?_ ?_ ?_ HS3.out ?_); rotate_left; rfl; rfl; rfl; rotate_left; rfl)))
 try go_wp2
 refine bodyPost_end (results_none rfl _ _ _) rfl ?_
 exact ⟨rfl, F6.out, K7.out⟩

theorem dread_any (b : Nat) (S : Us) (a : An) (w : World) (X : DsAt w b S) : Calls Tryz.prog 58 #[.pointer (some ⟨b, 0, none⟩), .agg (anL a).toArray] w fun e' w' => e' = .returned (.tuple #[]) ∧ DsAt w' b (S.dread a) ∧ Kp [b] w w' := by
 unfold Us.dread
 by_cases hk : a.k = 1
 · cases hl : klt (a.l.rk, a.l.kn) (S.me.rk, S.me.kn) with
   | true => rw [if_pos ⟨hk, rfl⟩]; exact dread_go b S a hk hl w X
   | false => rw [if_neg (fun h => Bool.noConfusion h.2), if_neg (by omega), if_neg (by omega)]; exact dread_no1 b S a hk hl w X
 · rw [if_neg fun h => hk h.1]
   by_cases h2 : a.k = 2
   · rw [if_pos h2]; exact dread_2 b S a h2 w X
   · rw [if_neg h2]
     by_cases h3 : a.k = 3
     · rw [if_pos h3]; exact dread_3 b S a h3 w X
     · rw [if_neg h3]; exact dread_no b S a hk h2 h3 w X

/-- Told that it is locked, or not. -/
def _root_.Go.Proofs.YtokehogcenjefaaGreatDoor.Us.dlocked (S : Us) (a : An) : Us := if a.k = 1 ∧ klt (S.me.rk, S.me.kn) (a.r.rk, a.r.kn) = true then { S with rg := a.r, pl := 4 } else if a.k = 1 then { S with pl := 7 } else if a.k = 2 then S.dback 10 0 else if a.k = 3 then S.dback 10 132 else S.dback 9 0

set_option maxHeartbeats 2000000 in
set_option maxRecDepth 100000 in
theorem dlock_go (b : Nat) (S : Us) (a : An) (hk : a.k = 1) (hl : klt (S.me.rk, S.me.kn) (a.r.rk, a.r.kn) = true) (w : World) (X : DsAt w b S) : Calls Tryz.prog 60 #[.pointer (some ⟨b, 0, none⟩), .agg (anL a).toArray] w fun e' w' => e' = .returned (.tuple #[]) ∧ DsAt w' b ({ S with rg := a.r, pl := 4 }) ∧ Kp [b] w w' := by
 have mixed : Tryz.prog.follows .mixedOrders = true := by kernel_rfl
 have b1 := (Below.refl w.heap.size w).alloc (Nat.le_refl _) (.cells (anL a).toArray 62)
 have A := hide (IsB.new w (anL a).toArray 62)
 have y0 : (w.alloc (.cells (anL a).toArray 62)).cell? ⟨w.heap.size, 0, none⟩ = some (.int .i64 a.k) := cl_ak A.out
 have I := hide (IsB.below X b1)
 have KZ : Hid (Kp [b] w (w.alloc (.cells (anL a).toArray 62))) := Kp.of_below b1
 clear b1 X
 rw [hk] at y0
 replace hk := hide hk
 have HL := hide hl
 clear hl
 go_enter Tryz.func60, Tryz.ntmps60
 go_wp2_with fail
 generalize (w.alloc (.cells (anL a).toArray 62)) = WA at *
 obtain ⟨H, hH⟩ : ∃ H, w.heap.size = H := ⟨_, rfl⟩
 rw [hH] at A y0 ⊢
 replace hH := hide hH
 clear y0
 have ID := hide (I.out.below ((Below.refl _ _).drew))
 have AD := hide (A.out.below ((Below.refl _ _).drew))
 have KD := hide (KZ.out.bel ((Below.refl _ _).drew))
 clear I A KZ
 refine regionL 16 (fun w' => DsAt w' b S ∧ IsB w' H (anL a).toArray 62) mixed ⟨ID.out, AD.out⟩ (fun hHeld => ?_)
 generalize WA.drew = WD2 at *
 refine pkA (v := ?_) 0 (some 7) rfl rfl ?_ (by assumption) ?_
 rotate_left
 · intro w'
   go_simp
   try with_reducible rfl
 try simp only [Act.put, zqa, zqb, zqc]
 refine pkL (v := ?_) 1 (some 8) rfl rfl ?_ (by assumption) ?_
 rotate_left
 · intro w' hSw
   obtain ⟨q0, q1⟩ := hSw
   have z0 := cl_ak q1
   rw [hk.out] at z0
   go_simp
   try with_reducible rfl
 try simp only [Act.put, zqa, zqb, zqc]
 refine pkA (v := ?_) 2 (some 9) rfl rfl ?_ (by assumption) ?_
 rotate_left
 · intro w'
   go_simp
   try with_reducible rfl
 try simp only [Act.put, zqa, zqb, zqc]
 refine pkA (v := ?_) 3 (some 10) rfl rfl ?_ (by assumption) ?_
 rotate_left
 · intro w'
   go_simp
   try with_reducible rfl
 try simp only [Act.put, zqa, zqb, zqc]
 refine pkA (v := ?_) 4 (some 11) rfl rfl ?_ (by assumption) ?_
 rotate_left
 · intro w'
   go_simp
   try with_reducible rfl
 try simp only [Act.put, zqa, zqb, zqc]
 refine pkA (v := ?_) 5 (some 12) rfl rfl ?_ (by assumption) ?_
 rotate_left
 · intro w'
   go_simp
   try with_reducible rfl
 try simp only [Act.put, zqa, zqb, zqc]
 refine pkA (v := ?_) 6 (some 13) rfl rfl ?_ (by assumption) ?_
 rotate_left
 · intro w'
   go_simp
   try with_reducible rfl
 try simp only [Act.put, zqa, zqb, zqc]
 refine pkA (v := ?_) 7 (some 14) rfl rfl ?_ (by assumption) ?_
 rotate_left
 · intro w'
   go_simp
   try with_reducible rfl
 try simp only [Act.put, zqa, zqb, zqc]
 refine pkA (v := ?_) 8 (some 15) rfl rfl ?_ (by assumption) ?_
 rotate_left
 · intro w'
   go_simp
   try with_reducible rfl
 try simp only [Act.put, zqa, zqb, zqc]
 refine pkL (v := .agg #[.int .i64 S.me.rk, .int .u64 S.me.kn]) 9 (some 16) rfl rfl ?_ (by assumption) ?_
 · intro w' hSw
   obtain ⟨q0, q1⟩ := hSw
   have z0 := cl_ak q1
   rw [hk.out] at z0
   exact exec_load rfl rfl (dld_mek q0)
 try simp only [Act.put, zqa, zqb, zqc]
 refine pkA (v := ?_) 10 (some 17) rfl rfl ?_ (by assumption) ?_
 rotate_left
 · intro w'
   go_simp
   try with_reducible rfl
 try simp only [Act.put, zqa, zqb, zqc]
 refine pkA (v := ?_) 11 (some 18) rfl rfl ?_ (by assumption) ?_
 rotate_left
 · intro w'
   go_simp
   try with_reducible rfl
 try simp only [Act.put, zqa, zqb, zqc]
 refine pkL (v := .agg #[.int .i64 a.r.rk, .int .u64 a.r.kn]) 12 (some 19) rfl rfl ?_ (by assumption) ?_
 · intro w' hSw
   obtain ⟨q0, q1⟩ := hSw
   have z0 := cl_ak q1
   rw [hk.out] at z0
   exact exec_load rfl rfl (ld_ark q1)
 try simp only [Act.put, zqa, zqb, zqc]
 refine oneL (i := 13) (by kernel_rfl) rfl (fun K hK => ?_)
 go_simp
 refine (rLess_any S.me.rk S.me.kn a.r.rk a.r.kn WD2).mono ?_
 rintro e' w2 ⟨rfl, hg⟩
 rw [HL.out]
 have I := hide (ID.out.below hg.below)
 have A := hide (AD.out.below hg.below)
 have KZ := hide (KD.out.bel hg.below)
 clear hg
 refine hK.out _ _ ?_ ?_
 · exact ⟨I.out, A.out⟩
 clear hK K
 try simp only [Act.put, zqa, zqb, zqc]
 clear hHeld
 have hHeld : (fun w' => DsAt w' b S ∧ IsB w' H (anL a).toArray 62) w2 := ⟨I.out, A.out⟩
 refine pkA (v := ?_) 14 (some 21) rfl rfl ?_ (by assumption) ?_
 rotate_left
 · intro w'
   go_simp
   try with_reducible rfl
 try simp only [Act.put, zqa, zqb, zqc]
 refine pkA (v := ?_) 15 (some 6) rfl rfl ?_ (by assumption) ?_
 rotate_left
 · intro w'
   go_simp
   try with_reducible rfl
 try simp only [Act.put, zqa, zqb, zqc]
 refine doneL (by kernel_rfl) ?_ _
 clear hHeld
 clear ID AD KD
 obtain ⟨w3, hs3, I3, k3⟩ := dst_right I.out a.r
 have HS3 := hide hs3
 obtain ⟨w4, hs4, I4, k4⟩ := dst_at I3 4
 have HS4 := hide hs4
 have F6 := hide I4
 have K7 := hide (KZ.out.tr (k3.tr k4))
 clear hs3 I3 k3 hs4 I4 k4
 have LR := hide (ld_ar A.out)
 go_wp2_with (first | (focus ((with_reducible refine wpList_load_w ?_ 29 (.tmp 24) ?_ ?_ LR.out ?_); rotate_left; rfl; rfl; rotate_left; rfl)) | (focus ((with_reducible refine wpList_store_w ?_ 29 (.tmp 27) (.tmp 25) ?_ ?_ ?_ HS3.out ?_); rotate_left; rfl; rfl; rfl; rotate_left; rfl)) | (focus ((with_reducible refine wpList_store_w ?_ 3 (.tmp 29) (.const (.int .i64 4)) ?_ ?_ ?_ HS4.out ?_); rotate_left; rfl; rfl; rfl; rotate_left; rfl)))
 try go_wp2
 refine bodyPost_end (results_none rfl _ _ _) rfl ?_
 exact ⟨rfl, F6.out, K7.out⟩

set_option maxHeartbeats 2000000 in
set_option maxRecDepth 100000 in
theorem dlock_no1 (b : Nat) (S : Us) (a : An) (hk : a.k = 1) (hl : klt (S.me.rk, S.me.kn) (a.r.rk, a.r.kn) = false) (w : World) (X : DsAt w b S) : Calls Tryz.prog 60 #[.pointer (some ⟨b, 0, none⟩), .agg (anL a).toArray] w fun e' w' => e' = .returned (.tuple #[]) ∧ DsAt w' b ({ S with pl := 7 }) ∧ Kp [b] w w' := by
 have mixed : Tryz.prog.follows .mixedOrders = true := by kernel_rfl
 have b1 := (Below.refl w.heap.size w).alloc (Nat.le_refl _) (.cells (anL a).toArray 62)
 have A := hide (IsB.new w (anL a).toArray 62)
 have y0 : (w.alloc (.cells (anL a).toArray 62)).cell? ⟨w.heap.size, 0, none⟩ = some (.int .i64 a.k) := cl_ak A.out
 have I := hide (IsB.below X b1)
 have KZ : Hid (Kp [b] w (w.alloc (.cells (anL a).toArray 62))) := Kp.of_below b1
 clear b1 X
 rw [hk] at y0
 replace hk := hide hk
 have HL := hide hl
 clear hl
 go_enter Tryz.func60, Tryz.ntmps60
 go_wp2_with fail
 generalize (w.alloc (.cells (anL a).toArray 62)) = WA at *
 obtain ⟨H, hH⟩ : ∃ H, w.heap.size = H := ⟨_, rfl⟩
 rw [hH] at A y0 ⊢
 replace hH := hide hH
 clear y0
 have ID := hide (I.out.below ((Below.refl _ _).drew))
 have AD := hide (A.out.below ((Below.refl _ _).drew))
 have KD := hide (KZ.out.bel ((Below.refl _ _).drew))
 clear I A KZ
 refine regionL 16 (fun w' => DsAt w' b S ∧ IsB w' H (anL a).toArray 62) mixed ⟨ID.out, AD.out⟩ (fun hHeld => ?_)
 generalize WA.drew = WD2 at *
 refine pkA (v := ?_) 0 (some 7) rfl rfl ?_ (by assumption) ?_
 rotate_left
 · intro w'
   go_simp
   try with_reducible rfl
 try simp only [Act.put, zqa, zqb, zqc]
 refine pkL (v := ?_) 1 (some 8) rfl rfl ?_ (by assumption) ?_
 rotate_left
 · intro w' hSw
   obtain ⟨q0, q1⟩ := hSw
   have z0 := cl_ak q1
   rw [hk.out] at z0
   go_simp
   try with_reducible rfl
 try simp only [Act.put, zqa, zqb, zqc]
 refine pkA (v := ?_) 2 (some 9) rfl rfl ?_ (by assumption) ?_
 rotate_left
 · intro w'
   go_simp
   try with_reducible rfl
 try simp only [Act.put, zqa, zqb, zqc]
 refine pkA (v := ?_) 3 (some 10) rfl rfl ?_ (by assumption) ?_
 rotate_left
 · intro w'
   go_simp
   try with_reducible rfl
 try simp only [Act.put, zqa, zqb, zqc]
 refine pkA (v := ?_) 4 (some 11) rfl rfl ?_ (by assumption) ?_
 rotate_left
 · intro w'
   go_simp
   try with_reducible rfl
 try simp only [Act.put, zqa, zqb, zqc]
 refine pkA (v := ?_) 5 (some 12) rfl rfl ?_ (by assumption) ?_
 rotate_left
 · intro w'
   go_simp
   try with_reducible rfl
 try simp only [Act.put, zqa, zqb, zqc]
 refine pkA (v := ?_) 6 (some 13) rfl rfl ?_ (by assumption) ?_
 rotate_left
 · intro w'
   go_simp
   try with_reducible rfl
 try simp only [Act.put, zqa, zqb, zqc]
 refine pkA (v := ?_) 7 (some 14) rfl rfl ?_ (by assumption) ?_
 rotate_left
 · intro w'
   go_simp
   try with_reducible rfl
 try simp only [Act.put, zqa, zqb, zqc]
 refine pkA (v := ?_) 8 (some 15) rfl rfl ?_ (by assumption) ?_
 rotate_left
 · intro w'
   go_simp
   try with_reducible rfl
 try simp only [Act.put, zqa, zqb, zqc]
 refine pkL (v := .agg #[.int .i64 S.me.rk, .int .u64 S.me.kn]) 9 (some 16) rfl rfl ?_ (by assumption) ?_
 · intro w' hSw
   obtain ⟨q0, q1⟩ := hSw
   have z0 := cl_ak q1
   rw [hk.out] at z0
   exact exec_load rfl rfl (dld_mek q0)
 try simp only [Act.put, zqa, zqb, zqc]
 refine pkA (v := ?_) 10 (some 17) rfl rfl ?_ (by assumption) ?_
 rotate_left
 · intro w'
   go_simp
   try with_reducible rfl
 try simp only [Act.put, zqa, zqb, zqc]
 refine pkA (v := ?_) 11 (some 18) rfl rfl ?_ (by assumption) ?_
 rotate_left
 · intro w'
   go_simp
   try with_reducible rfl
 try simp only [Act.put, zqa, zqb, zqc]
 refine pkL (v := .agg #[.int .i64 a.r.rk, .int .u64 a.r.kn]) 12 (some 19) rfl rfl ?_ (by assumption) ?_
 · intro w' hSw
   obtain ⟨q0, q1⟩ := hSw
   have z0 := cl_ak q1
   rw [hk.out] at z0
   exact exec_load rfl rfl (ld_ark q1)
 try simp only [Act.put, zqa, zqb, zqc]
 refine oneL (i := 13) (by kernel_rfl) rfl (fun K hK => ?_)
 go_simp
 refine (rLess_any S.me.rk S.me.kn a.r.rk a.r.kn WD2).mono ?_
 rintro e' w2 ⟨rfl, hg⟩
 rw [HL.out]
 have I := hide (ID.out.below hg.below)
 have A := hide (AD.out.below hg.below)
 have KZ := hide (KD.out.bel hg.below)
 clear hg
 refine hK.out _ _ ?_ ?_
 · exact ⟨I.out, A.out⟩
 clear hK K
 try simp only [Act.put, zqa, zqb, zqc]
 clear hHeld
 have hHeld : (fun w' => DsAt w' b S ∧ IsB w' H (anL a).toArray 62) w2 := ⟨I.out, A.out⟩
 refine pkA (v := ?_) 14 (some 21) rfl rfl ?_ (by assumption) ?_
 rotate_left
 · intro w'
   go_simp
   try with_reducible rfl
 try simp only [Act.put, zqa, zqb, zqc]
 refine pkA (v := ?_) 15 (some 6) rfl rfl ?_ (by assumption) ?_
 rotate_left
 · intro w'
   go_simp
   try with_reducible rfl
 try simp only [Act.put, zqa, zqb, zqc]
 refine doneL (by kernel_rfl) ?_ _
 clear hHeld
 clear ID AD KD
 have y0 := cl_ak A.out
 rw [hk.out] at y0
 obtain ⟨w3, hs3, I3, k3⟩ := dst_at I.out 7
 have HS3 := hide hs3
 have F6 := hide I3
 have K7 := hide (KZ.out.tr k3)
 clear hs3 I3 k3
 go_wp2_with (first | (focus ((with_reducible refine wpList_store_w ?_ 3 (.tmp 36) (.const (.int .i64 7)) ?_ ?_ ?_ HS3.out ?_); rotate_left; rfl; rfl; rfl; rotate_left; rfl)))
 try go_wp2
 refine bodyPost_end (results_none rfl _ _ _) rfl ?_
 exact ⟨rfl, F6.out, K7.out⟩

set_option maxHeartbeats 2000000 in
set_option maxRecDepth 100000 in
theorem dlock_2 (b : Nat) (S : Us) (a : An) (hk : a.k = 2) (w : World) (X : DsAt w b S) : Calls Tryz.prog 60 #[.pointer (some ⟨b, 0, none⟩), .agg (anL a).toArray] w fun e' w' => e' = .returned (.tuple #[]) ∧ DsAt w' b (S.dback 10 0) ∧ Kp [b] w w' := by
 have mixed : Tryz.prog.follows .mixedOrders = true := by kernel_rfl
 have b1 := (Below.refl w.heap.size w).alloc (Nat.le_refl _) (.cells (anL a).toArray 62)
 have A := hide (IsB.new w (anL a).toArray 62)
 have y0 : (w.alloc (.cells (anL a).toArray 62)).cell? ⟨w.heap.size, 0, none⟩ = some (.int .i64 a.k) := cl_ak A.out
 have I := hide (IsB.below X b1)
 have KZ : Hid (Kp [b] w (w.alloc (.cells (anL a).toArray 62))) := Kp.of_below b1
 clear b1 X
 rw [hk] at y0
 replace hk := hide hk
 go_enter Tryz.func60, Tryz.ntmps60
 go_wp2_with fail
 generalize (w.alloc (.cells (anL a).toArray 62)) = WA at *
 obtain ⟨H, hH⟩ : ∃ H, w.heap.size = H := ⟨_, rfl⟩
 rw [hH] at A y0 ⊢
 replace hH := hide hH
 clear y0
 have ID := hide (I.out.below ((Below.refl _ _).drew))
 have AD := hide (A.out.below ((Below.refl _ _).drew))
 have KD := hide (KZ.out.bel ((Below.refl _ _).drew))
 clear I A KZ
 refine regionL 16 (fun w' => DsAt w' b S ∧ IsB w' H (anL a).toArray 62) mixed ⟨ID.out, AD.out⟩ (fun hHeld => ?_)
 generalize WA.drew = WD2 at *
 refine pkA (v := ?_) 0 (some 7) rfl rfl ?_ (by assumption) ?_
 rotate_left
 · intro w'
   go_simp
   try with_reducible rfl
 try simp only [Act.put, zqa, zqb, zqc]
 refine pkL (v := ?_) 1 (some 8) rfl rfl ?_ (by assumption) ?_
 rotate_left
 · intro w' hSw
   obtain ⟨q0, q1⟩ := hSw
   have z0 := cl_ak q1
   rw [hk.out] at z0
   go_simp
   try with_reducible rfl
 try simp only [Act.put, zqa, zqb, zqc]
 refine pkA (v := ?_) 2 (some 9) rfl rfl ?_ (by assumption) ?_
 rotate_left
 · intro w'
   go_simp
   try with_reducible rfl
 try simp only [Act.put, zqa, zqb, zqc]
 refine pkA (v := ?_) 3 (some 10) rfl rfl ?_ (by assumption) ?_
 rotate_left
 · intro w'
   go_simp
   try with_reducible rfl
 try simp only [Act.put, zqa, zqb, zqc]
 refine pickN 4 (some 11) rfl rfl (by kernel_rfl) (by kernel_rfl) (by kernel_rfl) (by decide) (fun _ _ _ h => h) (by rfl) (by assumption) ?_
 try simp only [Act.put, zqa, zqb, zqc]
 refine pickN 5 (some 12) rfl rfl (by kernel_rfl) (by kernel_rfl) (by kernel_rfl) (by decide) (fun _ _ _ h => h) (by rfl) (by assumption) ?_
 try simp only [Act.put, zqa, zqb, zqc]
 refine pickN 6 (some 13) rfl rfl (by kernel_rfl) (by kernel_rfl) (by kernel_rfl) (by decide) (fun _ _ _ h => h) (by rfl) (by assumption) ?_
 try simp only [Act.put, zqa, zqb, zqc]
 refine pickN 7 (some 14) rfl rfl (by kernel_rfl) (by kernel_rfl) (by kernel_rfl) (by decide) (fun _ _ _ h => h) (by rfl) (by assumption) ?_
 try simp only [Act.put, zqa, zqb, zqc]
 refine pickN 8 (some 15) rfl rfl (by kernel_rfl) (by kernel_rfl) (by kernel_rfl) (by decide) (fun _ _ _ h => h) (by rfl) (by assumption) ?_
 try simp only [Act.put, zqa, zqb, zqc]
 refine pickN 9 (some 16) rfl rfl (by kernel_rfl) (by kernel_rfl) (by kernel_rfl) (by decide) (fun _ _ _ h => h) (by rfl) (by assumption) ?_
 try simp only [Act.put, zqa, zqb, zqc]
 refine pickN 10 (some 17) rfl rfl (by kernel_rfl) (by kernel_rfl) (by kernel_rfl) (by decide) (fun _ _ _ h => h) (by rfl) (by assumption) ?_
 try simp only [Act.put, zqa, zqb, zqc]
 refine pickN 11 (some 18) rfl rfl (by kernel_rfl) (by kernel_rfl) (by kernel_rfl) (by decide) (fun _ _ _ h => h) (by rfl) (by assumption) ?_
 try simp only [Act.put, zqa, zqb, zqc]
 refine pickN 12 (some 19) rfl rfl (by kernel_rfl) (by kernel_rfl) (by kernel_rfl) (by decide) (fun _ _ _ h => h) (by rfl) (by assumption) ?_
 try simp only [Act.put, zqa, zqb, zqc]
 refine pickN 13 (some 20) rfl rfl (by kernel_rfl) (by kernel_rfl) (by kernel_rfl) (by decide) (fun _ _ _ h => h) (by rfl) (by assumption) ?_
 try simp only [Act.put, zqa, zqb, zqc]
 refine pkA (v := ?_) 14 (some 21) rfl rfl ?_ (by assumption) ?_
 rotate_left
 · intro w'
   go_simp
   try with_reducible rfl
 try simp only [Act.put, zqa, zqb, zqc]
 refine pkA (v := ?_) 15 (some 6) rfl rfl ?_ (by assumption) ?_
 rotate_left
 · intro w'
   go_simp
   try with_reducible rfl
 try simp only [Act.put, zqa, zqb, zqc]
 refine doneL (by kernel_rfl) ?_ _
 clear hHeld
 have I := ID
 have A := AD
 have KZ := KD
 clear ID AD KD
 have y0 := cl_ak A.out
 rw [hk.out] at y0
 go_wp2_with fail
 refine (back_any b S 10 0 _ I.out).mono ?_
 rintro e' w9 ⟨rfl, I9, K9⟩
 have F6 := hide I9
 have K7 := hide (KZ.out.tr K9)
 clear I9 K9
 try go_wp2
 refine bodyPost_end (results_none rfl _ _ _) rfl ?_
 exact ⟨rfl, F6.out, K7.out⟩

set_option maxHeartbeats 2000000 in
set_option maxRecDepth 100000 in
theorem dlock_3 (b : Nat) (S : Us) (a : An) (hk : a.k = 3) (w : World) (X : DsAt w b S) : Calls Tryz.prog 60 #[.pointer (some ⟨b, 0, none⟩), .agg (anL a).toArray] w fun e' w' => e' = .returned (.tuple #[]) ∧ DsAt w' b (S.dback 10 132) ∧ Kp [b] w w' := by
 have mixed : Tryz.prog.follows .mixedOrders = true := by kernel_rfl
 have b1 := (Below.refl w.heap.size w).alloc (Nat.le_refl _) (.cells (anL a).toArray 62)
 have A := hide (IsB.new w (anL a).toArray 62)
 have y0 : (w.alloc (.cells (anL a).toArray 62)).cell? ⟨w.heap.size, 0, none⟩ = some (.int .i64 a.k) := cl_ak A.out
 have I := hide (IsB.below X b1)
 have KZ : Hid (Kp [b] w (w.alloc (.cells (anL a).toArray 62))) := Kp.of_below b1
 clear b1 X
 rw [hk] at y0
 replace hk := hide hk
 go_enter Tryz.func60, Tryz.ntmps60
 go_wp2_with fail
 generalize (w.alloc (.cells (anL a).toArray 62)) = WA at *
 obtain ⟨H, hH⟩ : ∃ H, w.heap.size = H := ⟨_, rfl⟩
 rw [hH] at A y0 ⊢
 replace hH := hide hH
 clear y0
 have ID := hide (I.out.below ((Below.refl _ _).drew))
 have AD := hide (A.out.below ((Below.refl _ _).drew))
 have KD := hide (KZ.out.bel ((Below.refl _ _).drew))
 clear I A KZ
 refine regionL 16 (fun w' => DsAt w' b S ∧ IsB w' H (anL a).toArray 62) mixed ⟨ID.out, AD.out⟩ (fun hHeld => ?_)
 generalize WA.drew = WD2 at *
 refine pkA (v := ?_) 0 (some 7) rfl rfl ?_ (by assumption) ?_
 rotate_left
 · intro w'
   go_simp
   try with_reducible rfl
 try simp only [Act.put, zqa, zqb, zqc]
 refine pkL (v := ?_) 1 (some 8) rfl rfl ?_ (by assumption) ?_
 rotate_left
 · intro w' hSw
   obtain ⟨q0, q1⟩ := hSw
   have z0 := cl_ak q1
   rw [hk.out] at z0
   go_simp
   try with_reducible rfl
 try simp only [Act.put, zqa, zqb, zqc]
 refine pkA (v := ?_) 2 (some 9) rfl rfl ?_ (by assumption) ?_
 rotate_left
 · intro w'
   go_simp
   try with_reducible rfl
 try simp only [Act.put, zqa, zqb, zqc]
 refine pkA (v := ?_) 3 (some 10) rfl rfl ?_ (by assumption) ?_
 rotate_left
 · intro w'
   go_simp
   try with_reducible rfl
 try simp only [Act.put, zqa, zqb, zqc]
 refine pickN 4 (some 11) rfl rfl (by kernel_rfl) (by kernel_rfl) (by kernel_rfl) (by decide) (fun _ _ _ h => h) (by rfl) (by assumption) ?_
 try simp only [Act.put, zqa, zqb, zqc]
 refine pickN 5 (some 12) rfl rfl (by kernel_rfl) (by kernel_rfl) (by kernel_rfl) (by decide) (fun _ _ _ h => h) (by rfl) (by assumption) ?_
 try simp only [Act.put, zqa, zqb, zqc]
 refine pickN 6 (some 13) rfl rfl (by kernel_rfl) (by kernel_rfl) (by kernel_rfl) (by decide) (fun _ _ _ h => h) (by rfl) (by assumption) ?_
 try simp only [Act.put, zqa, zqb, zqc]
 refine pickN 7 (some 14) rfl rfl (by kernel_rfl) (by kernel_rfl) (by kernel_rfl) (by decide) (fun _ _ _ h => h) (by rfl) (by assumption) ?_
 try simp only [Act.put, zqa, zqb, zqc]
 refine pickN 8 (some 15) rfl rfl (by kernel_rfl) (by kernel_rfl) (by kernel_rfl) (by decide) (fun _ _ _ h => h) (by rfl) (by assumption) ?_
 try simp only [Act.put, zqa, zqb, zqc]
 refine pickN 9 (some 16) rfl rfl (by kernel_rfl) (by kernel_rfl) (by kernel_rfl) (by decide) (fun _ _ _ h => h) (by rfl) (by assumption) ?_
 try simp only [Act.put, zqa, zqb, zqc]
 refine pickN 10 (some 17) rfl rfl (by kernel_rfl) (by kernel_rfl) (by kernel_rfl) (by decide) (fun _ _ _ h => h) (by rfl) (by assumption) ?_
 try simp only [Act.put, zqa, zqb, zqc]
 refine pickN 11 (some 18) rfl rfl (by kernel_rfl) (by kernel_rfl) (by kernel_rfl) (by decide) (fun _ _ _ h => h) (by rfl) (by assumption) ?_
 try simp only [Act.put, zqa, zqb, zqc]
 refine pickN 12 (some 19) rfl rfl (by kernel_rfl) (by kernel_rfl) (by kernel_rfl) (by decide) (fun _ _ _ h => h) (by rfl) (by assumption) ?_
 try simp only [Act.put, zqa, zqb, zqc]
 refine pickN 13 (some 20) rfl rfl (by kernel_rfl) (by kernel_rfl) (by kernel_rfl) (by decide) (fun _ _ _ h => h) (by rfl) (by assumption) ?_
 try simp only [Act.put, zqa, zqb, zqc]
 refine pkA (v := ?_) 14 (some 21) rfl rfl ?_ (by assumption) ?_
 rotate_left
 · intro w'
   go_simp
   try with_reducible rfl
 try simp only [Act.put, zqa, zqb, zqc]
 refine pkA (v := ?_) 15 (some 6) rfl rfl ?_ (by assumption) ?_
 rotate_left
 · intro w'
   go_simp
   try with_reducible rfl
 try simp only [Act.put, zqa, zqb, zqc]
 refine doneL (by kernel_rfl) ?_ _
 clear hHeld
 have I := ID
 have A := AD
 have KZ := KD
 clear ID AD KD
 have y0 := cl_ak A.out
 rw [hk.out] at y0
 go_wp2_with fail
 refine (back_any b S 10 132 _ I.out).mono ?_
 rintro e' w9 ⟨rfl, I9, K9⟩
 have F6 := hide I9
 have K7 := hide (KZ.out.tr K9)
 clear I9 K9
 try go_wp2
 refine bodyPost_end (results_none rfl _ _ _) rfl ?_
 exact ⟨rfl, F6.out, K7.out⟩

set_option maxHeartbeats 2000000 in
set_option maxRecDepth 100000 in
theorem dlock_no (b : Nat) (S : Us) (a : An) (hk1 : ¬a.k = 1) (hk2 : ¬a.k = 2) (hk3 : ¬a.k = 3) (w : World) (X : DsAt w b S) : Calls Tryz.prog 60 #[.pointer (some ⟨b, 0, none⟩), .agg (anL a).toArray] w fun e' w' => e' = .returned (.tuple #[]) ∧ DsAt w' b (S.dback 9 0) ∧ Kp [b] w w' := by
 have mixed : Tryz.prog.follows .mixedOrders = true := by kernel_rfl
 have b1 := (Below.refl w.heap.size w).alloc (Nat.le_refl _) (.cells (anL a).toArray 62)
 have A := hide (IsB.new w (anL a).toArray 62)
 have y0 : (w.alloc (.cells (anL a).toArray 62)).cell? ⟨w.heap.size, 0, none⟩ = some (.int .i64 a.k) := cl_ak A.out
 have I := hide (IsB.below X b1)
 have KZ : Hid (Kp [b] w (w.alloc (.cells (anL a).toArray 62))) := Kp.of_below b1
 clear b1 X
 have e1 : (a.k == 1) = false := by simpa using hk1
 have e2 : (a.k == 2) = false := by simpa using hk2
 have e3 : (a.k == 3) = false := by simpa using hk3
 go_enter Tryz.func60, Tryz.ntmps60
 go_wp2_with fail
 generalize (w.alloc (.cells (anL a).toArray 62)) = WA at *
 obtain ⟨H, hH⟩ : ∃ H, w.heap.size = H := ⟨_, rfl⟩
 rw [hH] at A y0 ⊢
 replace hH := hide hH
 clear y0
 have ID := hide (I.out.below ((Below.refl _ _).drew))
 have AD := hide (A.out.below ((Below.refl _ _).drew))
 have KD := hide (KZ.out.bel ((Below.refl _ _).drew))
 clear I A KZ
 refine regionL 16 (fun w' => DsAt w' b S ∧ IsB w' H (anL a).toArray 62) mixed ⟨ID.out, AD.out⟩ (fun hHeld => ?_)
 generalize WA.drew = WD2 at *
 refine pkA (v := ?_) 0 (some 7) rfl rfl ?_ (by assumption) ?_
 rotate_left
 · intro w'
   go_simp
   try with_reducible rfl
 try simp only [Act.put, zqa, zqb, zqc]
 refine pkL (v := ?_) 1 (some 8) rfl rfl ?_ (by assumption) ?_
 rotate_left
 · intro w' hSw
   obtain ⟨q0, q1⟩ := hSw
   have z0 := cl_ak q1
   skip
   go_simp
   try with_reducible rfl
 try simp only [Act.put, zqa, zqb, zqc]
 refine pkA (v := ?_) 2 (some 9) rfl rfl ?_ (by assumption) ?_
 rotate_left
 · intro w'
   go_simp
   try with_reducible rfl
 try simp only [Act.put, zqa, zqb, zqc]
 refine pkA (v := ?_) 3 (some 10) rfl rfl ?_ (by assumption) ?_
 rotate_left
 · intro w'
   go_simp
   try with_reducible rfl
 try simp only [Act.put, zqa, zqb, zqc]
 refine pickN 4 (some 11) rfl rfl (by kernel_rfl) (by kernel_rfl) (by kernel_rfl) (by decide) (fun _ _ _ h => h) (by rfl) (by assumption) ?_
 try simp only [Act.put, zqa, zqb, zqc]
 refine pickN 5 (some 12) rfl rfl (by kernel_rfl) (by kernel_rfl) (by kernel_rfl) (by decide) (fun _ _ _ h => h) (by rfl) (by assumption) ?_
 try simp only [Act.put, zqa, zqb, zqc]
 refine pickN 6 (some 13) rfl rfl (by kernel_rfl) (by kernel_rfl) (by kernel_rfl) (by decide) (fun _ _ _ h => h) (by rfl) (by assumption) ?_
 try simp only [Act.put, zqa, zqb, zqc]
 refine pickN 7 (some 14) rfl rfl (by kernel_rfl) (by kernel_rfl) (by kernel_rfl) (by decide) (fun _ _ _ h => h) (by rfl) (by assumption) ?_
 try simp only [Act.put, zqa, zqb, zqc]
 refine pickN 8 (some 15) rfl rfl (by kernel_rfl) (by kernel_rfl) (by kernel_rfl) (by decide) (fun _ _ _ h => h) (by rfl) (by assumption) ?_
 try simp only [Act.put, zqa, zqb, zqc]
 refine pickN 9 (some 16) rfl rfl (by kernel_rfl) (by kernel_rfl) (by kernel_rfl) (by decide) (fun _ _ _ h => h) (by rfl) (by assumption) ?_
 try simp only [Act.put, zqa, zqb, zqc]
 refine pickN 10 (some 17) rfl rfl (by kernel_rfl) (by kernel_rfl) (by kernel_rfl) (by decide) (fun _ _ _ h => h) (by rfl) (by assumption) ?_
 try simp only [Act.put, zqa, zqb, zqc]
 refine pickN 11 (some 18) rfl rfl (by kernel_rfl) (by kernel_rfl) (by kernel_rfl) (by decide) (fun _ _ _ h => h) (by rfl) (by assumption) ?_
 try simp only [Act.put, zqa, zqb, zqc]
 refine pickN 12 (some 19) rfl rfl (by kernel_rfl) (by kernel_rfl) (by kernel_rfl) (by decide) (fun _ _ _ h => h) (by rfl) (by assumption) ?_
 try simp only [Act.put, zqa, zqb, zqc]
 refine pickN 13 (some 20) rfl rfl (by kernel_rfl) (by kernel_rfl) (by kernel_rfl) (by decide) (fun _ _ _ h => h) (by rfl) (by assumption) ?_
 try simp only [Act.put, zqa, zqb, zqc]
 refine pkA (v := ?_) 14 (some 21) rfl rfl ?_ (by assumption) ?_
 rotate_left
 · intro w'
   go_simp
   try with_reducible rfl
 try simp only [Act.put, zqa, zqb, zqc]
 refine pkA (v := ?_) 15 (some 6) rfl rfl ?_ (by assumption) ?_
 rotate_left
 · intro w'
   go_simp
   try with_reducible rfl
 try simp only [Act.put, zqa, zqb, zqc]
 refine doneL (by kernel_rfl) ?_ _
 clear hHeld
 have I := ID
 have A := AD
 have KZ := KD
 clear ID AD KD
 have y0 := cl_ak A.out
 go_wp2_with fail
 refine (back_any b S 9 0 _ I.out).mono ?_
 rintro e' w9 ⟨rfl, I9, K9⟩
 have F6 := hide I9
 have K7 := hide (KZ.out.tr K9)
 clear I9 K9
 try go_wp2
 refine bodyPost_end (results_none rfl _ _ _) rfl ?_
 exact ⟨rfl, F6.out, K7.out⟩

theorem dlock_any (b : Nat) (S : Us) (a : An) (w : World) (X : DsAt w b S) : Calls Tryz.prog 60 #[.pointer (some ⟨b, 0, none⟩), .agg (anL a).toArray] w fun e' w' => e' = .returned (.tuple #[]) ∧ DsAt w' b (S.dlocked a) ∧ Kp [b] w w' := by
 unfold Us.dlocked
 by_cases hk : a.k = 1
 · cases hl : klt (S.me.rk, S.me.kn) (a.r.rk, a.r.kn) with
   | true => rw [if_pos ⟨hk, rfl⟩]; exact dlock_go b S a hk hl w X
   | false => rw [if_neg (fun h => Bool.noConfusion h.2), if_pos hk]; exact dlock_no1 b S a hk hl w X
 · rw [if_neg fun h => hk h.1, if_neg hk]
   by_cases h2 : a.k = 2
   · rw [if_pos h2]; exact dlock_2 b S a h2 w X
   · rw [if_neg h2]
     by_cases h3 : a.k = 3
     · rw [if_pos h3]; exact dlock_3 b S a h3 w X
     · rw [if_neg h3]; exact dlock_no b S a hk h2 h3 w X

end Go.Proofs.YtokehogcenjefaaGreatDoor.Un
