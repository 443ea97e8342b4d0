/- The document's Tell, Wake. -/
import Derived.Test.YtokehogcenjefaaGreatDoorEH
namespace Go.Proofs.YtokehogcenjefaaGreatDoor.Un
open Go.RowKit Go.Maps Go.ChangeMaps

/-- The document's is told an answer. -/
def _root_.Go.Proofs.YtokehogcenjefaaGreatDoor.Us.dtell (S : Us) (a : An) : Us :=
 if S.pl = 1 then S.dread a
 else if S.pl = 2 then (if a.k = 1 ∧ a.r = S.me then { S with pl := 3 } else if a.k = 1 then S.dback 9 0 else { S with pl := 9 })
 else if S.pl = 3 then S.dlocked a
 else if S.pl = 4 then (if a.k = 1 ∨ a.k = 3 ∧ a.r = S.rg then { S with pl := 5 } else { S with pl := 7 })
 else if S.pl = 5 then { S with pl := 6 }
 else if S.pl = 6 then S.dback 10 (if a.k = 3 then 132 else 0)
 else if S.pl = 7 then S.dback 9 0
 else if S.pl = 8 then { S with pl := S.bh }
 else S

set_option maxHeartbeats 2000000 in
set_option maxRecDepth 100000 in
theorem dt_1 (b : Nat) (S : Us) (a : An) (hp : S.pl = 1) (w : World) (X : DsAt w b S) : Calls Tryz.prog 36 #[.pointer (some ⟨b, 0, none⟩), .agg (anL a).toArray] w fun e' w' => e' = .returned (.tuple #[]) ∧ DsAt w' b (S.dread a) ∧ Kp [b] w w' := by
 have b1 := (Below.refl w.heap.size w).alloc (Nat.le_refl _) (.cells (anL a).toArray 62)
 have A := hide (IsB.new w (anL a).toArray 62)
 have y0 : (w.alloc (.cells (anL a).toArray 62)).cell? ⟨w.heap.size, 0, none⟩ = some (.int .i64 a.k) := cl_ak A.out
 have I := hide (IsB.below X b1)
 have KZ : Hid (Kp [b] w (w.alloc (.cells (anL a).toArray 62))) := Kp.of_below b1
 clear b1 X
 have y9 : (w.alloc (.cells (anL a).toArray 62)).cell? ⟨b, 9, none⟩ = some (.int .i64 S.pl) := dcl_at I.out
 rw [hp] at y9
 clear hp
 have LA := hide (ld_ans A.out)
 have CT := hide (dread_any b S a _ I.out)
 generalize S.dread a = E at *
 go_enter Tryz.func36, Tryz.ntmps36
 go_wp2_with (first | (focus ((with_reducible refine wpList_load_w ?_ 62 (.tmp 3) ?_ ?_ LA.out ?_); rotate_left; rfl; rfl; rotate_left; rfl)))
 refine CT.out.mono ?_
 rintro e' w6 ⟨rfl, X6, K6⟩
 have F6 := hide X6
 have K7 := hide (KZ.out.tr K6)
 clear X6 K6 LA y9
 try go_wp2
 refine bodyPost_end (results_none rfl _ _ _) rfl ?_
 exact ⟨rfl, F6.out, K7.out⟩

set_option maxHeartbeats 2000000 in
set_option maxRecDepth 100000 in
theorem dt_3 (b : Nat) (S : Us) (a : An) (hp : S.pl = 3) (w : World) (X : DsAt w b S) : Calls Tryz.prog 36 #[.pointer (some ⟨b, 0, none⟩), .agg (anL a).toArray] w fun e' w' => e' = .returned (.tuple #[]) ∧ DsAt w' b (S.dlocked a) ∧ Kp [b] w w' := by
 have b1 := (Below.refl w.heap.size w).alloc (Nat.le_refl _) (.cells (anL a).toArray 62)
 have A := hide (IsB.new w (anL a).toArray 62)
 have y0 : (w.alloc (.cells (anL a).toArray 62)).cell? ⟨w.heap.size, 0, none⟩ = some (.int .i64 a.k) := cl_ak A.out
 have I := hide (IsB.below X b1)
 have KZ : Hid (Kp [b] w (w.alloc (.cells (anL a).toArray 62))) := Kp.of_below b1
 clear b1 X
 have y9 : (w.alloc (.cells (anL a).toArray 62)).cell? ⟨b, 9, none⟩ = some (.int .i64 S.pl) := dcl_at I.out
 rw [hp] at y9
 clear hp
 have LA := hide (ld_ans A.out)
 have CT := hide (dlock_any b S a _ I.out)
 generalize S.dlocked a = E at *
 go_enter Tryz.func36, Tryz.ntmps36
 go_wp2_with (first | (focus ((with_reducible refine wpList_load_w ?_ 62 (.tmp 3) ?_ ?_ LA.out ?_); rotate_left; rfl; rfl; rotate_left; rfl)))
 refine CT.out.mono ?_
 rintro e' w6 ⟨rfl, X6, K6⟩
 have F6 := hide X6
 have K7 := hide (KZ.out.tr K6)
 clear X6 K6 LA y9
 try go_wp2
 refine bodyPost_end (results_none rfl _ _ _) rfl ?_
 exact ⟨rfl, F6.out, K7.out⟩

set_option maxHeartbeats 2000000 in
set_option maxRecDepth 100000 in
theorem dt_2me (b : Nat) (S : Us) (a : An) (hp : S.pl = 2) (hk : a.k = 1) (he : a.r = S.me) (w : World) (X : DsAt w b S) : Calls Tryz.prog 36 #[.pointer (some ⟨b, 0, none⟩), .agg (anL a).toArray] w fun e' w' => e' = .returned (.tuple #[]) ∧ DsAt w' b ({ S with pl := 3 }) ∧ Kp [b] w w' := by
 have mixed : Tryz.prog.follows .mixedOrders = true := by kernel_rfl
 have b1 := (Below.refl w.heap.size w).alloc (Nat.le_refl _) (.cells (anL a).toArray 62)
 have A := hide (IsB.new w (anL a).toArray 62)
 have y0 : (w.alloc (.cells (anL a).toArray 62)).cell? ⟨w.heap.size, 0, none⟩ = some (.int .i64 a.k) := cl_ak A.out
 have I := hide (IsB.below X b1)
 have KZ : Hid (Kp [b] w (w.alloc (.cells (anL a).toArray 62))) := Kp.of_below b1
 clear b1 X
 have y9 : (w.alloc (.cells (anL a).toArray 62)).cell? ⟨b, 9, none⟩ = some (.int .i64 S.pl) := dcl_at I.out
 rw [hp] at y9
 clear hp
 have HE : Hid (decide (a.r = S.me) = true) := decide_eq_true he
 clear he
 rw [hk] at y0
 replace hk := hide hk
 go_enter Tryz.func36, Tryz.ntmps36
 go_wp2_with fail
 generalize (w.alloc (.cells (anL a).toArray 62)) = WA at *
 obtain ⟨H, hH⟩ : ∃ H, w.heap.size = H := ⟨_, rfl⟩
 rw [hH] at A y0 ⊢
 replace hH := hide hH
 clear y0 y9
 have ID := hide (I.out.below ((Below.refl _ _).drew))
 have AD := hide (A.out.below ((Below.refl _ _).drew))
 have KD := hide (KZ.out.bel ((Below.refl _ _).drew))
 clear I A KZ
 refine regionL 14 (fun w' => DsAt w' b S ∧ IsB w' H (anL a).toArray 62) mixed ⟨ID.out, AD.out⟩ (fun hHeld => ?_)
 generalize WA.drew = WD2 at *
 refine pkA (v := ?_) 0 (some 20) rfl rfl ?_ (by assumption) ?_
 rotate_left
 · intro w'
   go_simp
   try with_reducible rfl
 try simp only [Act.put, zqa, zqb, zqc]
 refine pkL (v := ?_) 1 (some 21) rfl rfl ?_ (by assumption) ?_
 rotate_left
 · intro w' hSw
   obtain ⟨q0, q1⟩ := hSw
   have z0 := cl_ak q1
   rw [hk.out] at z0
   go_simp
   try with_reducible rfl
 try simp only [Act.put, zqa, zqb, zqc]
 refine pkA (v := ?_) 2 (some 22) rfl rfl ?_ (by assumption) ?_
 rotate_left
 · intro w'
   go_simp
   try with_reducible rfl
 try simp only [Act.put, zqa, zqb, zqc]
 refine pkA (v := ?_) 3 (some 23) rfl rfl ?_ (by assumption) ?_
 rotate_left
 · intro w'
   go_simp
   try with_reducible rfl
 try simp only [Act.put, zqa, zqb, zqc]
 refine pkA (v := ?_) 4 (some 24) rfl rfl ?_ (by assumption) ?_
 rotate_left
 · intro w'
   go_simp
   try with_reducible rfl
 try simp only [Act.put, zqa, zqb, zqc]
 refine pkL (v := .agg a.r.cells) 5 (some 25) rfl rfl ?_ (by assumption) ?_
 · intro w' hSw
   obtain ⟨q0, q1⟩ := hSw
   have z0 := cl_ak q1
   rw [hk.out] at z0
   exact exec_load rfl rfl (ld_ar q1)
 try simp only [Act.put, zqa, zqb, zqc]
 refine pkA (v := ?_) 6 (some 26) rfl rfl ?_ (by assumption) ?_
 rotate_left
 · intro w'
   go_simp
   try with_reducible rfl
 try simp only [Act.put, zqa, zqb, zqc]
 refine pkA (v := ?_) 7 (some 27) rfl rfl ?_ (by assumption) ?_
 rotate_left
 · intro w'
   go_simp
   try with_reducible rfl
 try simp only [Act.put, zqa, zqb, zqc]
 refine pkA (v := ?_) 8 (some 28) rfl rfl ?_ (by assumption) ?_
 rotate_left
 · intro w'
   go_simp
   try with_reducible rfl
 try simp only [Act.put, zqa, zqb, zqc]
 refine pkA (v := ?_) 9 (some 29) rfl rfl ?_ (by assumption) ?_
 rotate_left
 · intro w'
   go_simp
   try with_reducible rfl
 try simp only [Act.put, zqa, zqb, zqc]
 refine pkL (v := .agg S.me.cells) 10 (some 30) rfl rfl ?_ (by assumption) ?_
 · intro w' hSw
   obtain ⟨q0, q1⟩ := hSw
   have z0 := cl_ak q1
   rw [hk.out] at z0
   exact exec_load rfl rfl (dld_me q0)
 try simp only [Act.put, zqa, zqb, zqc]
 refine pkA (v := .bool true) 11 (some 31) rfl rfl ?_ (by assumption) ?_
 · intro w'
   exact exec_bin rguard rfl rfl rfl (by rw [eqr_w, HE.out])
 try simp only [Act.put, zqa, zqb, zqc]
 refine pkA (v := ?_) 12 (some 32) rfl rfl ?_ (by assumption) ?_
 rotate_left
 · intro w'
   go_simp
   try with_reducible rfl
 try simp only [Act.put, zqa, zqb, zqc]
 refine pkA (v := ?_) 13 (some 19) rfl rfl ?_ (by assumption) ?_
 rotate_left
 · intro w'
   go_simp
   try with_reducible rfl
 try simp only [Act.put, zqa, zqb, zqc]
 refine doneL (by kernel_rfl) ?_ _
 clear hHeld
 have I := ID
 have A := AD
 have KZ := KD
 clear ID AD KD
 obtain ⟨w3, hs3, I3, k3⟩ := dst_at I.out 3
 have HS3 := hide hs3
 have F6 := hide I3
 have K7 := hide (KZ.out.tr k3)
 clear hs3 I3 k3
 go_wp2_with (first | (focus ((with_reducible refine wpList_store_w ?_ 3 (.tmp 35) (.const (.int .i64 3)) ?_ ?_ ?_ HS3.out ?_); rotate_left; rfl; rfl; rfl; rotate_left; rfl)))
 try go_wp2
 refine bodyPost_end (results_none rfl _ _ _) rfl ?_
 exact ⟨rfl, F6.out, K7.out⟩

set_option maxHeartbeats 2000000 in
set_option maxRecDepth 100000 in
theorem dt_2ot (b : Nat) (S : Us) (a : An) (hp : S.pl = 2) (hk : a.k = 1) (he : ¬a.r = S.me) (w : World) (X : DsAt w b S) : Calls Tryz.prog 36 #[.pointer (some ⟨b, 0, none⟩), .agg (anL a).toArray] w fun e' w' => e' = .returned (.tuple #[]) ∧ DsAt w' b (S.dback 9 0) ∧ Kp [b] w w' := by
 have mixed : Tryz.prog.follows .mixedOrders = true := by kernel_rfl
 have b1 := (Below.refl w.heap.size w).alloc (Nat.le_refl _) (.cells (anL a).toArray 62)
 have A := hide (IsB.new w (anL a).toArray 62)
 have y0 : (w.alloc (.cells (anL a).toArray 62)).cell? ⟨w.heap.size, 0, none⟩ = some (.int .i64 a.k) := cl_ak A.out
 have I := hide (IsB.below X b1)
 have KZ : Hid (Kp [b] w (w.alloc (.cells (anL a).toArray 62))) := Kp.of_below b1
 clear b1 X
 have y9 : (w.alloc (.cells (anL a).toArray 62)).cell? ⟨b, 9, none⟩ = some (.int .i64 S.pl) := dcl_at I.out
 rw [hp] at y9
 clear hp
 have HE : Hid (decide (a.r = S.me) = false) := decide_eq_false he
 clear he
 rw [hk] at y0
 replace hk := hide hk
 go_enter Tryz.func36, Tryz.ntmps36
 go_wp2_with fail
 generalize (w.alloc (.cells (anL a).toArray 62)) = WA at *
 obtain ⟨H, hH⟩ : ∃ H, w.heap.size = H := ⟨_, rfl⟩
 rw [hH] at A y0 ⊢
 replace hH := hide hH
 clear y0 y9
 have ID := hide (I.out.below ((Below.refl _ _).drew))
 have AD := hide (A.out.below ((Below.refl _ _).drew))
 have KD := hide (KZ.out.bel ((Below.refl _ _).drew))
 clear I A KZ
 refine regionL 14 (fun w' => DsAt w' b S ∧ IsB w' H (anL a).toArray 62) mixed ⟨ID.out, AD.out⟩ (fun hHeld => ?_)
 generalize WA.drew = WD2 at *
 refine pkA (v := ?_) 0 (some 20) rfl rfl ?_ (by assumption) ?_
 rotate_left
 · intro w'
   go_simp
   try with_reducible rfl
 try simp only [Act.put, zqa, zqb, zqc]
 refine pkL (v := ?_) 1 (some 21) rfl rfl ?_ (by assumption) ?_
 rotate_left
 · intro w' hSw
   obtain ⟨q0, q1⟩ := hSw
   have z0 := cl_ak q1
   rw [hk.out] at z0
   go_simp
   try with_reducible rfl
 try simp only [Act.put, zqa, zqb, zqc]
 refine pkA (v := ?_) 2 (some 22) rfl rfl ?_ (by assumption) ?_
 rotate_left
 · intro w'
   go_simp
   try with_reducible rfl
 try simp only [Act.put, zqa, zqb, zqc]
 refine pkA (v := ?_) 3 (some 23) rfl rfl ?_ (by assumption) ?_
 rotate_left
 · intro w'
   go_simp
   try with_reducible rfl
 try simp only [Act.put, zqa, zqb, zqc]
 refine pkA (v := ?_) 4 (some 24) rfl rfl ?_ (by assumption) ?_
 rotate_left
 · intro w'
   go_simp
   try with_reducible rfl
 try simp only [Act.put, zqa, zqb, zqc]
 refine pkL (v := .agg a.r.cells) 5 (some 25) rfl rfl ?_ (by assumption) ?_
 · intro w' hSw
   obtain ⟨q0, q1⟩ := hSw
   have z0 := cl_ak q1
   rw [hk.out] at z0
   exact exec_load rfl rfl (ld_ar q1)
 try simp only [Act.put, zqa, zqb, zqc]
 refine pkA (v := ?_) 6 (some 26) rfl rfl ?_ (by assumption) ?_
 rotate_left
 · intro w'
   go_simp
   try with_reducible rfl
 try simp only [Act.put, zqa, zqb, zqc]
 refine pkA (v := ?_) 7 (some 27) rfl rfl ?_ (by assumption) ?_
 rotate_left
 · intro w'
   go_simp
   try with_reducible rfl
 try simp only [Act.put, zqa, zqb, zqc]
 refine pkA (v := ?_) 8 (some 28) rfl rfl ?_ (by assumption) ?_
 rotate_left
 · intro w'
   go_simp
   try with_reducible rfl
 try simp only [Act.put, zqa, zqb, zqc]
 refine pkA (v := ?_) 9 (some 29) rfl rfl ?_ (by assumption) ?_
 rotate_left
 · intro w'
   go_simp
   try with_reducible rfl
 try simp only [Act.put, zqa, zqb, zqc]
 refine pkL (v := .agg S.me.cells) 10 (some 30) rfl rfl ?_ (by assumption) ?_
 · intro w' hSw
   obtain ⟨q0, q1⟩ := hSw
   have z0 := cl_ak q1
   rw [hk.out] at z0
   exact exec_load rfl rfl (dld_me q0)
 try simp only [Act.put, zqa, zqb, zqc]
 refine pkA (v := .bool false) 11 (some 31) rfl rfl ?_ (by assumption) ?_
 · intro w'
   exact exec_bin rguard rfl rfl rfl (by rw [eqr_w, HE.out])
 try simp only [Act.put, zqa, zqb, zqc]
 refine pkA (v := ?_) 12 (some 32) rfl rfl ?_ (by assumption) ?_
 rotate_left
 · intro w'
   go_simp
   try with_reducible rfl
 try simp only [Act.put, zqa, zqb, zqc]
 refine pkA (v := ?_) 13 (some 19) rfl rfl ?_ (by assumption) ?_
 rotate_left
 · intro w'
   go_simp
   try with_reducible rfl
 try simp only [Act.put, zqa, zqb, zqc]
 refine doneL (by kernel_rfl) ?_ _
 clear hHeld
 have I := ID
 have A := AD
 have KZ := KD
 clear ID AD KD
 have y0 := cl_ak A.out
 rw [hk.out] at y0
 go_wp2_with fail
 refine (back_any b S 9 0 _ I.out).mono ?_
 rintro e' w9 ⟨rfl, I9, K9⟩
 have F6 := hide I9
 have K7 := hide (KZ.out.tr K9)
 clear I9 K9
 try go_wp2
 refine bodyPost_end (results_none rfl _ _ _) rfl ?_
 exact ⟨rfl, F6.out, K7.out⟩

set_option maxHeartbeats 2000000 in
set_option maxRecDepth 100000 in
theorem dt_2no (b : Nat) (S : Us) (a : An) (hp : S.pl = 2) (hk1 : ¬a.k = 1) (w : World) (X : DsAt w b S) : Calls Tryz.prog 36 #[.pointer (some ⟨b, 0, none⟩), .agg (anL a).toArray] w fun e' w' => e' = .returned (.tuple #[]) ∧ DsAt w' b ({ S with pl := 9 }) ∧ Kp [b] w w' := by
 have mixed : Tryz.prog.follows .mixedOrders = true := by kernel_rfl
 have b1 := (Below.refl w.heap.size w).alloc (Nat.le_refl _) (.cells (anL a).toArray 62)
 have A := hide (IsB.new w (anL a).toArray 62)
 have y0 : (w.alloc (.cells (anL a).toArray 62)).cell? ⟨w.heap.size, 0, none⟩ = some (.int .i64 a.k) := cl_ak A.out
 have I := hide (IsB.below X b1)
 have KZ : Hid (Kp [b] w (w.alloc (.cells (anL a).toArray 62))) := Kp.of_below b1
 clear b1 X
 have y9 : (w.alloc (.cells (anL a).toArray 62)).cell? ⟨b, 9, none⟩ = some (.int .i64 S.pl) := dcl_at I.out
 rw [hp] at y9
 clear hp
 have e1 : (a.k == 1) = false := by simpa using hk1
 go_enter Tryz.func36, Tryz.ntmps36
 go_wp2_with fail
 generalize (w.alloc (.cells (anL a).toArray 62)) = WA at *
 obtain ⟨H, hH⟩ : ∃ H, w.heap.size = H := ⟨_, rfl⟩
 rw [hH] at A y0 ⊢
 replace hH := hide hH
 clear y0 y9
 have ID := hide (I.out.below ((Below.refl _ _).drew))
 have AD := hide (A.out.below ((Below.refl _ _).drew))
 have KD := hide (KZ.out.bel ((Below.refl _ _).drew))
 clear I A KZ
 refine regionL 14 (fun w' => DsAt w' b S ∧ IsB w' H (anL a).toArray 62) mixed ⟨ID.out, AD.out⟩ (fun hHeld => ?_)
 generalize WA.drew = WD2 at *
 refine pkA (v := ?_) 0 (some 20) rfl rfl ?_ (by assumption) ?_
 rotate_left
 · intro w'
   go_simp
   try with_reducible rfl
 try simp only [Act.put, zqa, zqb, zqc]
 refine pkL (v := ?_) 1 (some 21) rfl rfl ?_ (by assumption) ?_
 rotate_left
 · intro w' hSw
   obtain ⟨q0, q1⟩ := hSw
   have z0 := cl_ak q1
   skip
   go_simp
   try with_reducible rfl
 try simp only [Act.put, zqa, zqb, zqc]
 refine pkA (v := ?_) 2 (some 22) rfl rfl ?_ (by assumption) ?_
 rotate_left
 · intro w'
   go_simp
   try with_reducible rfl
 try simp only [Act.put, zqa, zqb, zqc]
 refine pkA (v := ?_) 3 (some 23) rfl rfl ?_ (by assumption) ?_
 rotate_left
 · intro w'
   go_simp
   try with_reducible rfl
 try simp only [Act.put, zqa, zqb, zqc]
 refine pickN 4 (some 24) rfl rfl (by kernel_rfl) (by kernel_rfl) (by kernel_rfl) (by decide) (fun _ _ _ h => h) (by rfl) (by assumption) ?_
 try simp only [Act.put, zqa, zqb, zqc]
 refine pickN 5 (some 25) rfl rfl (by kernel_rfl) (by kernel_rfl) (by kernel_rfl) (by decide) (fun _ _ _ h => h) (by rfl) (by assumption) ?_
 try simp only [Act.put, zqa, zqb, zqc]
 refine pickN 6 (some 26) rfl rfl (by kernel_rfl) (by kernel_rfl) (by kernel_rfl) (by decide) (fun _ _ _ h => h) (by rfl) (by assumption) ?_
 try simp only [Act.put, zqa, zqb, zqc]
 refine pickN 7 (some 27) rfl rfl (by kernel_rfl) (by kernel_rfl) (by kernel_rfl) (by decide) (fun _ _ _ h => h) (by rfl) (by assumption) ?_
 try simp only [Act.put, zqa, zqb, zqc]
 refine pickN 8 (some 28) rfl rfl (by kernel_rfl) (by kernel_rfl) (by kernel_rfl) (by decide) (fun _ _ _ h => h) (by rfl) (by assumption) ?_
 try simp only [Act.put, zqa, zqb, zqc]
 refine pickN 9 (some 29) rfl rfl (by kernel_rfl) (by kernel_rfl) (by kernel_rfl) (by decide) (fun _ _ _ h => h) (by rfl) (by assumption) ?_
 try simp only [Act.put, zqa, zqb, zqc]
 refine pickN 10 (some 30) rfl rfl (by kernel_rfl) (by kernel_rfl) (by kernel_rfl) (by decide) (fun _ _ _ h => h) (by rfl) (by assumption) ?_
 try simp only [Act.put, zqa, zqb, zqc]
 refine pickN 11 (some 31) rfl rfl (by kernel_rfl) (by kernel_rfl) (by kernel_rfl) (by decide) (fun _ _ _ h => h) (by rfl) (by assumption) ?_
 try simp only [Act.put, zqa, zqb, zqc]
 refine pkA (v := ?_) 12 (some 32) rfl rfl ?_ (by assumption) ?_
 rotate_left
 · intro w'
   go_simp
   try with_reducible rfl
 try simp only [Act.put, zqa, zqb, zqc]
 refine pkA (v := ?_) 13 (some 19) rfl rfl ?_ (by assumption) ?_
 rotate_left
 · intro w'
   go_simp
   try with_reducible rfl
 try simp only [Act.put, zqa, zqb, zqc]
 refine doneL (by kernel_rfl) ?_ _
 clear hHeld
 have I := ID
 have A := AD
 have KZ := KD
 clear ID AD KD
 have y0 := cl_ak A.out
 obtain ⟨w3, hs3, I3, k3⟩ := dst_at I.out 9
 have HS3 := hide hs3
 have F6 := hide I3
 have K7 := hide (KZ.out.tr k3)
 clear hs3 I3 k3
 go_wp2_with (first | (focus ((with_reducible refine wpList_store_w ?_ 3 (.tmp 18) (.const (.int .i64 9)) ?_ ?_ ?_ HS3.out ?_); rotate_left; rfl; rfl; rfl; rotate_left; rfl)))
 try go_wp2
 refine bodyPost_end (results_none rfl _ _ _) rfl ?_
 exact ⟨rfl, F6.out, K7.out⟩

set_option maxHeartbeats 2000000 in
set_option maxRecDepth 100000 in
theorem dt_4ok (b : Nat) (S : Us) (a : An) (hp : S.pl = 4) (hk : a.k = 1) (w : World) (X : DsAt w b S) : Calls Tryz.prog 36 #[.pointer (some ⟨b, 0, none⟩), .agg (anL a).toArray] w fun e' w' => e' = .returned (.tuple #[]) ∧ DsAt w' b ({ S with pl := 5 }) ∧ Kp [b] w w' := by
 have mixed : Tryz.prog.follows .mixedOrders = true := by kernel_rfl
 have b1 := (Below.refl w.heap.size w).alloc (Nat.le_refl _) (.cells (anL a).toArray 62)
 have A := hide (IsB.new w (anL a).toArray 62)
 have y0 : (w.alloc (.cells (anL a).toArray 62)).cell? ⟨w.heap.size, 0, none⟩ = some (.int .i64 a.k) := cl_ak A.out
 have I := hide (IsB.below X b1)
 have KZ : Hid (Kp [b] w (w.alloc (.cells (anL a).toArray 62))) := Kp.of_below b1
 clear b1 X
 have y9 : (w.alloc (.cells (anL a).toArray 62)).cell? ⟨b, 9, none⟩ = some (.int .i64 S.pl) := dcl_at I.out
 rw [hp] at y9
 clear hp
 rw [hk] at y0
 replace hk := hide hk
 obtain ⟨w2, hs2, I2, k2⟩ := dst_at I.out 7
 have HS2 := hide hs2
 have hne : w.heap.size ≠ b := fun e => IsB.ne_t A.out I.out (by decide) e
 replace A := hide (A.out.kp k2 (by simpa using hne))
 replace KZ := hide (KZ.out.tr k2)
 replace I := hide I2
 clear hs2 I2 k2 hne y0
 go_enter Tryz.func36, Tryz.ntmps36
 go_wp2_with (first | (focus ((with_reducible refine wpList_store_w ?_ 3 (.tmp 51) (.const (.int .i64 7)) ?_ ?_ ?_ HS2.out ?_); rotate_left; rfl; rfl; rfl; rotate_left; rfl)))
 clear y9 HS2
 obtain ⟨H, hH⟩ : ∃ H, w.heap.size = H := ⟨_, rfl⟩
 rw [hH] at A ⊢
 replace hH := hide hH
 have ID := hide (I.out.below ((Below.refl _ _).drew))
 have AD := hide (A.out.below ((Below.refl _ _).drew))
 have KD := hide (KZ.out.bel ((Below.refl _ _).drew))
 clear I A KZ
 refine regionL 17 (fun w' => DsAt w' b { S with pl := 7 } ∧ IsB w' H (anL a).toArray 62) mixed ⟨ID.out, AD.out⟩ (fun hHeld => ?_)
 generalize w2.drew = WD4 at *
 refine pkA (v := ?_) 0 (some 52) rfl rfl ?_ (by assumption) ?_
 rotate_left
 · intro w'
   go_simp
   try with_reducible rfl
 try simp only [Act.put, zqa, zqb, zqc]
 refine pkL (v := ?_) 1 (some 53) rfl rfl ?_ (by assumption) ?_
 rotate_left
 · intro w' hSw
   obtain ⟨q0, q1⟩ := hSw
   have z0 := cl_ak q1
   rw [hk.out] at z0
   go_simp
   try with_reducible rfl
 try simp only [Act.put, zqa, zqb, zqc]
 refine pkA (v := ?_) 2 (some 54) rfl rfl ?_ (by assumption) ?_
 rotate_left
 · intro w'
   go_simp
   try with_reducible rfl
 try simp only [Act.put, zqa, zqb, zqc]
 refine pkA (v := ?_) 3 (some 55) rfl rfl ?_ (by assumption) ?_
 rotate_left
 · intro w'
   go_simp
   try with_reducible rfl
 try simp only [Act.put, zqa, zqb, zqc]
 refine pickN 4 (some 56) rfl rfl (by kernel_rfl) (by kernel_rfl) (by kernel_rfl) (by decide) (fun _ _ _ h => h) (by rfl) (by assumption) ?_
 try simp only [Act.put, zqa, zqb, zqc]
 refine pickN 5 (some 57) rfl rfl (by kernel_rfl) (by kernel_rfl) (by kernel_rfl) (by decide) (fun _ _ _ h => h) (by rfl) (by assumption) ?_
 try simp only [Act.put, zqa, zqb, zqc]
 refine pickN 6 (some 58) rfl rfl (by kernel_rfl) (by kernel_rfl) (by kernel_rfl) (by decide) (fun _ _ _ h => h) (by rfl) (by assumption) ?_
 try simp only [Act.put, zqa, zqb, zqc]
 refine pickN 7 (some 59) rfl rfl (by kernel_rfl) (by kernel_rfl) (by kernel_rfl) (by decide) (fun _ _ _ h => h) (by rfl) (by assumption) ?_
 try simp only [Act.put, zqa, zqb, zqc]
 refine pickN 8 (some 60) rfl rfl (by kernel_rfl) (by kernel_rfl) (by kernel_rfl) (by decide) (fun _ _ _ h => h) (by rfl) (by assumption) ?_
 try simp only [Act.put, zqa, zqb, zqc]
 refine pickN 9 (some 61) rfl rfl (by kernel_rfl) (by kernel_rfl) (by kernel_rfl) (by decide) (fun _ _ _ h => h) (by rfl) (by assumption) ?_
 try simp only [Act.put, zqa, zqb, zqc]
 refine pickN 10 (some 62) rfl rfl (by kernel_rfl) (by kernel_rfl) (by kernel_rfl) (by decide) (fun _ _ _ h => h) (by rfl) (by assumption) ?_
 try simp only [Act.put, zqa, zqb, zqc]
 refine pickN 11 (some 63) rfl rfl (by kernel_rfl) (by kernel_rfl) (by kernel_rfl) (by decide) (fun _ _ _ h => h) (by rfl) (by assumption) ?_
 try simp only [Act.put, zqa, zqb, zqc]
 refine pickN 12 (some 64) rfl rfl (by kernel_rfl) (by kernel_rfl) (by kernel_rfl) (by decide) (fun _ _ _ h => h) (by rfl) (by assumption) ?_
 try simp only [Act.put, zqa, zqb, zqc]
 refine pickN 13 (some 65) rfl rfl (by kernel_rfl) (by kernel_rfl) (by kernel_rfl) (by decide) (fun _ _ _ h => h) (by rfl) (by assumption) ?_
 try simp only [Act.put, zqa, zqb, zqc]
 refine pickN 14 (some 66) rfl rfl (by kernel_rfl) (by kernel_rfl) (by kernel_rfl) (by decide) (fun _ _ _ h => h) (by rfl) (by assumption) ?_
 try simp only [Act.put, zqa, zqb, zqc]
 refine pickN 15 (some 67) rfl rfl (by kernel_rfl) (by kernel_rfl) (by kernel_rfl) (by decide) (fun _ _ _ h => h) (by rfl) (by assumption) ?_
 try simp only [Act.put, zqa, zqb, zqc]
 refine pkA (v := ?_) 16 (some 68) rfl rfl ?_ (by assumption) ?_
 rotate_left
 · intro w'
   go_simp
   try with_reducible rfl
 try simp only [Act.put, zqa, zqb, zqc]
 refine doneL (by kernel_rfl) ?_ _
 clear hHeld
 have I := ID
 have A := AD
 have KZ := KD
 clear ID AD KD
 obtain ⟨w5, hs5, I5, k5⟩ := dst_at I.out 5
 have HS5 := hide hs5
 have F6 := hide I5
 have K7 := hide (KZ.out.tr k5)
 clear hs5 I5 k5
 go_wp2_with (first | (focus ((with_reducible refine wpList_store_w ?_ 3 (.tmp 71) (.const (.int .i64 5)) ?_ ?_ ?_ HS5.out ?_); rotate_left; rfl; rfl; rfl; rotate_left; rfl)))
 try go_wp2
 refine bodyPost_end (results_none rfl _ _ _) rfl ?_
 exact ⟨rfl, F6.out, K7.out⟩

set_option maxHeartbeats 2000000 in
set_option maxRecDepth 100000 in
theorem dt_4same (b : Nat) (S : Us) (a : An) (hp : S.pl = 4) (hk : a.k = 3) (he : a.r = S.rg) (w : World) (X : DsAt w b S) : Calls Tryz.prog 36 #[.pointer (some ⟨b, 0, none⟩), .agg (anL a).toArray] w fun e' w' => e' = .returned (.tuple #[]) ∧ DsAt w' b ({ S with pl := 5 }) ∧ Kp [b] w w' := by
 have mixed : Tryz.prog.follows .mixedOrders = true := by kernel_rfl
 have b1 := (Below.refl w.heap.size w).alloc (Nat.le_refl _) (.cells (anL a).toArray 62)
 have A := hide (IsB.new w (anL a).toArray 62)
 have y0 : (w.alloc (.cells (anL a).toArray 62)).cell? ⟨w.heap.size, 0, none⟩ = some (.int .i64 a.k) := cl_ak A.out
 have I := hide (IsB.below X b1)
 have KZ : Hid (Kp [b] w (w.alloc (.cells (anL a).toArray 62))) := Kp.of_below b1
 clear b1 X
 have y9 : (w.alloc (.cells (anL a).toArray 62)).cell? ⟨b, 9, none⟩ = some (.int .i64 S.pl) := dcl_at I.out
 rw [hp] at y9
 clear hp
 have HE : Hid (decide (a.r = S.rg) = true) := decide_eq_true he
 clear he
 rw [hk] at y0
 replace hk := hide hk
 obtain ⟨w2, hs2, I2, k2⟩ := dst_at I.out 7
 have HS2 := hide hs2
 have hne : w.heap.size ≠ b := fun e => IsB.ne_t A.out I.out (by decide) e
 replace A := hide (A.out.kp k2 (by simpa using hne))
 replace KZ := hide (KZ.out.tr k2)
 replace I := hide I2
 clear hs2 I2 k2 hne y0
 go_enter Tryz.func36, Tryz.ntmps36
 go_wp2_with (first | (focus ((with_reducible refine wpList_store_w ?_ 3 (.tmp 51) (.const (.int .i64 7)) ?_ ?_ ?_ HS2.out ?_); rotate_left; rfl; rfl; rfl; rotate_left; rfl)))
 clear y9 HS2
 obtain ⟨H, hH⟩ : ∃ H, w.heap.size = H := ⟨_, rfl⟩
 rw [hH] at A ⊢
 replace hH := hide hH
 have ID := hide (I.out.below ((Below.refl _ _).drew))
 have AD := hide (A.out.below ((Below.refl _ _).drew))
 have KD := hide (KZ.out.bel ((Below.refl _ _).drew))
 clear I A KZ
 refine regionL 17 (fun w' => DsAt w' b { S with pl := 7 } ∧ IsB w' H (anL a).toArray 62) mixed ⟨ID.out, AD.out⟩ (fun hHeld => ?_)
 generalize w2.drew = WD4 at *
 refine pkA (v := ?_) 0 (some 52) rfl rfl ?_ (by assumption) ?_
 rotate_left
 · intro w'
   go_simp
   try with_reducible rfl
 try simp only [Act.put, zqa, zqb, zqc]
 refine pkL (v := ?_) 1 (some 53) rfl rfl ?_ (by assumption) ?_
 rotate_left
 · intro w' hSw
   obtain ⟨q0, q1⟩ := hSw
   have z0 := cl_ak q1
   rw [hk.out] at z0
   go_simp
   try with_reducible rfl
 try simp only [Act.put, zqa, zqb, zqc]
 refine pkA (v := ?_) 2 (some 54) rfl rfl ?_ (by assumption) ?_
 rotate_left
 · intro w'
   go_simp
   try with_reducible rfl
 try simp only [Act.put, zqa, zqb, zqc]
 refine pkA (v := ?_) 3 (some 55) rfl rfl ?_ (by assumption) ?_
 rotate_left
 · intro w'
   go_simp
   try with_reducible rfl
 try simp only [Act.put, zqa, zqb, zqc]
 refine pkA (v := ?_) 4 (some 56) rfl rfl ?_ (by assumption) ?_
 rotate_left
 · intro w'
   go_simp
   try with_reducible rfl
 try simp only [Act.put, zqa, zqb, zqc]
 refine pkL (v := ?_) 5 (some 57) rfl rfl ?_ (by assumption) ?_
 rotate_left
 · intro w' hSw
   obtain ⟨q0, q1⟩ := hSw
   have z0 := cl_ak q1
   rw [hk.out] at z0
   go_simp
   try with_reducible rfl
 try simp only [Act.put, zqa, zqb, zqc]
 refine pkA (v := ?_) 6 (some 58) rfl rfl ?_ (by assumption) ?_
 rotate_left
 · intro w'
   go_simp
   try with_reducible rfl
 try simp only [Act.put, zqa, zqb, zqc]
 refine pkA (v := ?_) 7 (some 59) rfl rfl ?_ (by assumption) ?_
 rotate_left
 · intro w'
   go_simp
   try with_reducible rfl
 try simp only [Act.put, zqa, zqb, zqc]
 refine pkA (v := ?_) 8 (some 60) rfl rfl ?_ (by assumption) ?_
 rotate_left
 · intro w'
   go_simp
   try with_reducible rfl
 try simp only [Act.put, zqa, zqb, zqc]
 refine pkL (v := .agg a.r.cells) 9 (some 61) rfl rfl ?_ (by assumption) ?_
 · intro w' hSw
   obtain ⟨q0, q1⟩ := hSw
   have z0 := cl_ak q1
   rw [hk.out] at z0
   exact exec_load rfl rfl (ld_ar q1)
 try simp only [Act.put, zqa, zqb, zqc]
 refine pkA (v := ?_) 10 (some 62) rfl rfl ?_ (by assumption) ?_
 rotate_left
 · intro w'
   go_simp
   try with_reducible rfl
 try simp only [Act.put, zqa, zqb, zqc]
 refine pkA (v := ?_) 11 (some 63) rfl rfl ?_ (by assumption) ?_
 rotate_left
 · intro w'
   go_simp
   try with_reducible rfl
 try simp only [Act.put, zqa, zqb, zqc]
 refine pkA (v := ?_) 12 (some 64) rfl rfl ?_ (by assumption) ?_
 rotate_left
 · intro w'
   go_simp
   try with_reducible rfl
 try simp only [Act.put, zqa, zqb, zqc]
 refine pkL (v := .agg S.rg.cells) 13 (some 65) rfl rfl ?_ (by assumption) ?_
 · intro w' hSw
   obtain ⟨q0, q1⟩ := hSw
   have z0 := cl_ak q1
   rw [hk.out] at z0
   exact exec_load rfl rfl (dld_right (S := { S with pl := 7 }) q0)
 try simp only [Act.put, zqa, zqb, zqc]
 refine pkA (v := .bool true) 14 (some 66) rfl rfl ?_ (by assumption) ?_
 · intro w'
   exact exec_bin rguard rfl rfl rfl (by rw [eqr_w, HE.out])
 try simp only [Act.put, zqa, zqb, zqc]
 refine pkA (v := ?_) 15 (some 67) rfl rfl ?_ (by assumption) ?_
 rotate_left
 · intro w'
   go_simp
   try with_reducible rfl
 try simp only [Act.put, zqa, zqb, zqc]
 refine pkA (v := ?_) 16 (some 68) rfl rfl ?_ (by assumption) ?_
 rotate_left
 · intro w'
   go_simp
   try with_reducible rfl
 try simp only [Act.put, zqa, zqb, zqc]
 refine doneL (by kernel_rfl) ?_ _
 clear hHeld
 have I := ID
 have A := AD
 have KZ := KD
 clear ID AD KD
 obtain ⟨w5, hs5, I5, k5⟩ := dst_at I.out 5
 have HS5 := hide hs5
 have F6 := hide I5
 have K7 := hide (KZ.out.tr k5)
 clear hs5 I5 k5
 go_wp2_with (first | (focus ((with_reducible refine wpList_store_w ?_ 3 (.tmp 71) (.const (.int .i64 5)) ?_ ?_ ?_ HS5.out ?_); rotate_left; rfl; rfl; rfl; rotate_left; rfl)))
 try go_wp2
 refine bodyPost_end (results_none rfl _ _ _) rfl ?_
 exact ⟨rfl, F6.out, K7.out⟩

set_option maxHeartbeats 2000000 in
set_option maxRecDepth 100000 in
theorem dt_4dead (b : Nat) (S : Us) (a : An) (hp : S.pl = 4) (hk : a.k = 3) (he : ¬a.r = S.rg) (w : World) (X : DsAt w b S) : Calls Tryz.prog 36 #[.pointer (some ⟨b, 0, none⟩), .agg (anL a).toArray] w fun e' w' => e' = .returned (.tuple #[]) ∧ DsAt w' b ({ S with pl := 7 }) ∧ Kp [b] w w' := by
 have mixed : Tryz.prog.follows .mixedOrders = true := by kernel_rfl
 have b1 := (Below.refl w.heap.size w).alloc (Nat.le_refl _) (.cells (anL a).toArray 62)
 have A := hide (IsB.new w (anL a).toArray 62)
 have y0 : (w.alloc (.cells (anL a).toArray 62)).cell? ⟨w.heap.size, 0, none⟩ = some (.int .i64 a.k) := cl_ak A.out
 have I := hide (IsB.below X b1)
 have KZ : Hid (Kp [b] w (w.alloc (.cells (anL a).toArray 62))) := Kp.of_below b1
 clear b1 X
 have y9 : (w.alloc (.cells (anL a).toArray 62)).cell? ⟨b, 9, none⟩ = some (.int .i64 S.pl) := dcl_at I.out
 rw [hp] at y9
 clear hp
 have HE : Hid (decide (a.r = S.rg) = false) := decide_eq_false he
 clear he
 rw [hk] at y0
 replace hk := hide hk
 obtain ⟨w2, hs2, I2, k2⟩ := dst_at I.out 7
 have HS2 := hide hs2
 have hne : w.heap.size ≠ b := fun e => IsB.ne_t A.out I.out (by decide) e
 replace A := hide (A.out.kp k2 (by simpa using hne))
 replace KZ := hide (KZ.out.tr k2)
 replace I := hide I2
 clear hs2 I2 k2 hne y0
 go_enter Tryz.func36, Tryz.ntmps36
 go_wp2_with (first | (focus ((with_reducible refine wpList_store_w ?_ 3 (.tmp 51) (.const (.int .i64 7)) ?_ ?_ ?_ HS2.out ?_); rotate_left; rfl; rfl; rfl; rotate_left; rfl)))
 clear y9 HS2
 obtain ⟨H, hH⟩ : ∃ H, w.heap.size = H := ⟨_, rfl⟩
 rw [hH] at A ⊢
 replace hH := hide hH
 have ID := hide (I.out.below ((Below.refl _ _).drew))
 have AD := hide (A.out.below ((Below.refl _ _).drew))
 have KD := hide (KZ.out.bel ((Below.refl _ _).drew))
 clear I A KZ
 refine regionL 17 (fun w' => DsAt w' b { S with pl := 7 } ∧ IsB w' H (anL a).toArray 62) mixed ⟨ID.out, AD.out⟩ (fun hHeld => ?_)
 generalize w2.drew = WD4 at *
 refine pkA (v := ?_) 0 (some 52) rfl rfl ?_ (by assumption) ?_
 rotate_left
 · intro w'
   go_simp
   try with_reducible rfl
 try simp only [Act.put, zqa, zqb, zqc]
 refine pkL (v := ?_) 1 (some 53) rfl rfl ?_ (by assumption) ?_
 rotate_left
 · intro w' hSw
   obtain ⟨q0, q1⟩ := hSw
   have z0 := cl_ak q1
   rw [hk.out] at z0
   go_simp
   try with_reducible rfl
 try simp only [Act.put, zqa, zqb, zqc]
 refine pkA (v := ?_) 2 (some 54) rfl rfl ?_ (by assumption) ?_
 rotate_left
 · intro w'
   go_simp
   try with_reducible rfl
 try simp only [Act.put, zqa, zqb, zqc]
 refine pkA (v := ?_) 3 (some 55) rfl rfl ?_ (by assumption) ?_
 rotate_left
 · intro w'
   go_simp
   try with_reducible rfl
 try simp only [Act.put, zqa, zqb, zqc]
 refine pkA (v := ?_) 4 (some 56) rfl rfl ?_ (by assumption) ?_
 rotate_left
 · intro w'
   go_simp
   try with_reducible rfl
 try simp only [Act.put, zqa, zqb, zqc]
 refine pkL (v := ?_) 5 (some 57) rfl rfl ?_ (by assumption) ?_
 rotate_left
 · intro w' hSw
   obtain ⟨q0, q1⟩ := hSw
   have z0 := cl_ak q1
   rw [hk.out] at z0
   go_simp
   try with_reducible rfl
 try simp only [Act.put, zqa, zqb, zqc]
 refine pkA (v := ?_) 6 (some 58) rfl rfl ?_ (by assumption) ?_
 rotate_left
 · intro w'
   go_simp
   try with_reducible rfl
 try simp only [Act.put, zqa, zqb, zqc]
 refine pkA (v := ?_) 7 (some 59) rfl rfl ?_ (by assumption) ?_
 rotate_left
 · intro w'
   go_simp
   try with_reducible rfl
 try simp only [Act.put, zqa, zqb, zqc]
 refine pkA (v := ?_) 8 (some 60) rfl rfl ?_ (by assumption) ?_
 rotate_left
 · intro w'
   go_simp
   try with_reducible rfl
 try simp only [Act.put, zqa, zqb, zqc]
 refine pkL (v := .agg a.r.cells) 9 (some 61) rfl rfl ?_ (by assumption) ?_
 · intro w' hSw
   obtain ⟨q0, q1⟩ := hSw
   have z0 := cl_ak q1
   rw [hk.out] at z0
   exact exec_load rfl rfl (ld_ar q1)
 try simp only [Act.put, zqa, zqb, zqc]
 refine pkA (v := ?_) 10 (some 62) rfl rfl ?_ (by assumption) ?_
 rotate_left
 · intro w'
   go_simp
   try with_reducible rfl
 try simp only [Act.put, zqa, zqb, zqc]
 refine pkA (v := ?_) 11 (some 63) rfl rfl ?_ (by assumption) ?_
 rotate_left
 · intro w'
   go_simp
   try with_reducible rfl
 try simp only [Act.put, zqa, zqb, zqc]
 refine pkA (v := ?_) 12 (some 64) rfl rfl ?_ (by assumption) ?_
 rotate_left
 · intro w'
   go_simp
   try with_reducible rfl
 try simp only [Act.put, zqa, zqb, zqc]
 refine pkL (v := .agg S.rg.cells) 13 (some 65) rfl rfl ?_ (by assumption) ?_
 · intro w' hSw
   obtain ⟨q0, q1⟩ := hSw
   have z0 := cl_ak q1
   rw [hk.out] at z0
   exact exec_load rfl rfl (dld_right (S := { S with pl := 7 }) q0)
 try simp only [Act.put, zqa, zqb, zqc]
 refine pkA (v := .bool false) 14 (some 66) rfl rfl ?_ (by assumption) ?_
 · intro w'
   exact exec_bin rguard rfl rfl rfl (by rw [eqr_w, HE.out])
 try simp only [Act.put, zqa, zqb, zqc]
 refine pkA (v := ?_) 15 (some 67) rfl rfl ?_ (by assumption) ?_
 rotate_left
 · intro w'
   go_simp
   try with_reducible rfl
 try simp only [Act.put, zqa, zqb, zqc]
 refine pkA (v := ?_) 16 (some 68) rfl rfl ?_ (by assumption) ?_
 rotate_left
 · intro w'
   go_simp
   try with_reducible rfl
 try simp only [Act.put, zqa, zqb, zqc]
 refine doneL (by kernel_rfl) ?_ _
 clear hHeld
 have I := ID
 have A := AD
 have KZ := KD
 clear ID AD KD
 have F6 := I
 have K7 := KZ
 go_wp2
 try go_wp2
 refine bodyPost_end (results_none rfl _ _ _) rfl ?_
 exact ⟨rfl, F6.out, K7.out⟩

set_option maxHeartbeats 2000000 in
set_option maxRecDepth 100000 in
theorem dt_4no (b : Nat) (S : Us) (a : An) (hp : S.pl = 4) (hk1 : ¬a.k = 1) (hk3 : ¬a.k = 3) (w : World) (X : DsAt w b S) : Calls Tryz.prog 36 #[.pointer (some ⟨b, 0, none⟩), .agg (anL a).toArray] w fun e' w' => e' = .returned (.tuple #[]) ∧ DsAt w' b ({ S with pl := 7 }) ∧ Kp [b] w w' := by
 have mixed : Tryz.prog.follows .mixedOrders = true := by kernel_rfl
 have b1 := (Below.refl w.heap.size w).alloc (Nat.le_refl _) (.cells (anL a).toArray 62)
 have A := hide (IsB.new w (anL a).toArray 62)
 have y0 : (w.alloc (.cells (anL a).toArray 62)).cell? ⟨w.heap.size, 0, none⟩ = some (.int .i64 a.k) := cl_ak A.out
 have I := hide (IsB.below X b1)
 have KZ : Hid (Kp [b] w (w.alloc (.cells (anL a).toArray 62))) := Kp.of_below b1
 clear b1 X
 have y9 : (w.alloc (.cells (anL a).toArray 62)).cell? ⟨b, 9, none⟩ = some (.int .i64 S.pl) := dcl_at I.out
 rw [hp] at y9
 clear hp
 have e1 : (a.k == 1) = false := by simpa using hk1
 have e3 : (a.k == 3) = false := by simpa using hk3
 obtain ⟨w2, hs2, I2, k2⟩ := dst_at I.out 7
 have HS2 := hide hs2
 have hne : w.heap.size ≠ b := fun e => IsB.ne_t A.out I.out (by decide) e
 replace A := hide (A.out.kp k2 (by simpa using hne))
 replace KZ := hide (KZ.out.tr k2)
 replace I := hide I2
 clear hs2 I2 k2 hne y0
 go_enter Tryz.func36, Tryz.ntmps36
 go_wp2_with (first | (focus ((with_reducible refine wpList_store_w ?_ 3 (.tmp 51) (.const (.int .i64 7)) ?_ ?_ ?_ HS2.out ?_); rotate_left; rfl; rfl; rfl; rotate_left; rfl)))
 clear y9 HS2
 obtain ⟨H, hH⟩ : ∃ H, w.heap.size = H := ⟨_, rfl⟩
 rw [hH] at A ⊢
 replace hH := hide hH
 have ID := hide (I.out.below ((Below.refl _ _).drew))
 have AD := hide (A.out.below ((Below.refl _ _).drew))
 have KD := hide (KZ.out.bel ((Below.refl _ _).drew))
 clear I A KZ
 refine regionL 17 (fun w' => DsAt w' b { S with pl := 7 } ∧ IsB w' H (anL a).toArray 62) mixed ⟨ID.out, AD.out⟩ (fun hHeld => ?_)
 generalize w2.drew = WD4 at *
 refine pkA (v := ?_) 0 (some 52) rfl rfl ?_ (by assumption) ?_
 rotate_left
 · intro w'
   go_simp
   try with_reducible rfl
 try simp only [Act.put, zqa, zqb, zqc]
 refine pkL (v := ?_) 1 (some 53) rfl rfl ?_ (by assumption) ?_
 rotate_left
 · intro w' hSw
   obtain ⟨q0, q1⟩ := hSw
   have z0 := cl_ak q1
   skip
   go_simp
   try with_reducible rfl
 try simp only [Act.put, zqa, zqb, zqc]
 refine pkA (v := ?_) 2 (some 54) rfl rfl ?_ (by assumption) ?_
 rotate_left
 · intro w'
   go_simp
   try with_reducible rfl
 try simp only [Act.put, zqa, zqb, zqc]
 refine pkA (v := ?_) 3 (some 55) rfl rfl ?_ (by assumption) ?_
 rotate_left
 · intro w'
   go_simp
   try with_reducible rfl
 try simp only [Act.put, zqa, zqb, zqc]
 refine pkA (v := ?_) 4 (some 56) rfl rfl ?_ (by assumption) ?_
 rotate_left
 · intro w'
   go_simp
   try with_reducible rfl
 try simp only [Act.put, zqa, zqb, zqc]
 refine pkL (v := ?_) 5 (some 57) rfl rfl ?_ (by assumption) ?_
 rotate_left
 · intro w' hSw
   obtain ⟨q0, q1⟩ := hSw
   have z0 := cl_ak q1
   skip
   go_simp
   try with_reducible rfl
 try simp only [Act.put, zqa, zqb, zqc]
 refine pkA (v := ?_) 6 (some 58) rfl rfl ?_ (by assumption) ?_
 rotate_left
 · intro w'
   go_simp
   try with_reducible rfl
 try simp only [Act.put, zqa, zqb, zqc]
 refine pkA (v := ?_) 7 (some 59) rfl rfl ?_ (by assumption) ?_
 rotate_left
 · intro w'
   go_simp
   try with_reducible rfl
 try simp only [Act.put, zqa, zqb, zqc]
 refine pickN 8 (some 60) rfl rfl (by kernel_rfl) (by kernel_rfl) (by kernel_rfl) (by decide) (fun _ _ _ h => h) (by rfl) (by assumption) ?_
 try simp only [Act.put, zqa, zqb, zqc]
 refine pickN 9 (some 61) rfl rfl (by kernel_rfl) (by kernel_rfl) (by kernel_rfl) (by decide) (fun _ _ _ h => h) (by rfl) (by assumption) ?_
 try simp only [Act.put, zqa, zqb, zqc]
 refine pickN 10 (some 62) rfl rfl (by kernel_rfl) (by kernel_rfl) (by kernel_rfl) (by decide) (fun _ _ _ h => h) (by rfl) (by assumption) ?_
 try simp only [Act.put, zqa, zqb, zqc]
 refine pickN 11 (some 63) rfl rfl (by kernel_rfl) (by kernel_rfl) (by kernel_rfl) (by decide) (fun _ _ _ h => h) (by rfl) (by assumption) ?_
 try simp only [Act.put, zqa, zqb, zqc]
 refine pickN 12 (some 64) rfl rfl (by kernel_rfl) (by kernel_rfl) (by kernel_rfl) (by decide) (fun _ _ _ h => h) (by rfl) (by assumption) ?_
 try simp only [Act.put, zqa, zqb, zqc]
 refine pickN 13 (some 65) rfl rfl (by kernel_rfl) (by kernel_rfl) (by kernel_rfl) (by decide) (fun _ _ _ h => h) (by rfl) (by assumption) ?_
 try simp only [Act.put, zqa, zqb, zqc]
 refine pickN 14 (some 66) rfl rfl (by kernel_rfl) (by kernel_rfl) (by kernel_rfl) (by decide) (fun _ _ _ h => h) (by rfl) (by assumption) ?_
 try simp only [Act.put, zqa, zqb, zqc]
 refine pkA (v := ?_) 15 (some 67) rfl rfl ?_ (by assumption) ?_
 rotate_left
 · intro w'
   go_simp
   try with_reducible rfl
 try simp only [Act.put, zqa, zqb, zqc]
 refine pkA (v := ?_) 16 (some 68) rfl rfl ?_ (by assumption) ?_
 rotate_left
 · intro w'
   go_simp
   try with_reducible rfl
 try simp only [Act.put, zqa, zqb, zqc]
 refine doneL (by kernel_rfl) ?_ _
 clear hHeld
 have I := ID
 have A := AD
 have KZ := KD
 clear ID AD KD
 have F6 := I
 have K7 := KZ
 go_wp2
 try go_wp2
 refine bodyPost_end (results_none rfl _ _ _) rfl ?_
 exact ⟨rfl, F6.out, K7.out⟩

set_option maxHeartbeats 2000000 in
set_option maxRecDepth 100000 in
theorem dt_5 (b : Nat) (S : Us) (a : An) (hp : S.pl = 5) (w : World) (X : DsAt w b S) : Calls Tryz.prog 36 #[.pointer (some ⟨b, 0, none⟩), .agg (anL a).toArray] w fun e' w' => e' = .returned (.tuple #[]) ∧ DsAt w' b ({ S with pl := 6 }) ∧ Kp [b] w w' := by
 have b1 := (Below.refl w.heap.size w).alloc (Nat.le_refl _) (.cells (anL a).toArray 62)
 have A := hide (IsB.new w (anL a).toArray 62)
 have y0 : (w.alloc (.cells (anL a).toArray 62)).cell? ⟨w.heap.size, 0, none⟩ = some (.int .i64 a.k) := cl_ak A.out
 have I := hide (IsB.below X b1)
 have KZ : Hid (Kp [b] w (w.alloc (.cells (anL a).toArray 62))) := Kp.of_below b1
 clear b1 X
 have y9 : (w.alloc (.cells (anL a).toArray 62)).cell? ⟨b, 9, none⟩ = some (.int .i64 S.pl) := dcl_at I.out
 rw [hp] at y9
 clear hp
 obtain ⟨w2, hs2, I2, k2⟩ := dst_at I.out 6
 have HS2 := hide hs2
 have F6 := hide I2
 have K7 := hide (KZ.out.tr k2)
 clear hs2 I2 k2
 go_enter Tryz.func36, Tryz.ntmps36
 go_wp2_with (first | (focus ((with_reducible refine wpList_store_w ?_ 3 (.tmp 76) (.const (.int .i64 6)) ?_ ?_ ?_ HS2.out ?_); rotate_left; rfl; rfl; rfl; rotate_left; rfl)))
 try go_wp2
 refine bodyPost_end (results_none rfl _ _ _) rfl ?_
 exact ⟨rfl, F6.out, K7.out⟩

set_option maxHeartbeats 2000000 in
set_option maxRecDepth 100000 in
theorem dt_6dead (b : Nat) (S : Us) (a : An) (hp : S.pl = 6) (hk : a.k = 3) (w : World) (X : DsAt w b S) : Calls Tryz.prog 36 #[.pointer (some ⟨b, 0, none⟩), .agg (anL a).toArray] w fun e' w' => e' = .returned (.tuple #[]) ∧ DsAt w' b (S.dback 10 132) ∧ Kp [b] w w' := by
 have b1 := (Below.refl w.heap.size w).alloc (Nat.le_refl _) (.cells (anL a).toArray 62)
 have A := hide (IsB.new w (anL a).toArray 62)
 have y0 : (w.alloc (.cells (anL a).toArray 62)).cell? ⟨w.heap.size, 0, none⟩ = some (.int .i64 a.k) := cl_ak A.out
 have I := hide (IsB.below X b1)
 have KZ : Hid (Kp [b] w (w.alloc (.cells (anL a).toArray 62))) := Kp.of_below b1
 clear b1 X
 have y9 : (w.alloc (.cells (anL a).toArray 62)).cell? ⟨b, 9, none⟩ = some (.int .i64 S.pl) := dcl_at I.out
 rw [hp] at y9
 clear hp
 rw [hk] at y0
 replace hk := hide hk
 go_enter Tryz.func36, Tryz.ntmps36
 go_wp2_with fail
 refine (back_any b S 10 132 _ I.out).mono ?_
 rintro e' w9 ⟨rfl, I9, K9⟩
 have F6 := hide I9
 have K7 := hide (KZ.out.tr K9)
 clear I9 K9
 try go_wp2
 refine bodyPost_end (results_none rfl _ _ _) rfl ?_
 exact ⟨rfl, F6.out, K7.out⟩

set_option maxHeartbeats 2000000 in
set_option maxRecDepth 100000 in
theorem dt_6 (b : Nat) (S : Us) (a : An) (hp : S.pl = 6) (hk3 : ¬a.k = 3) (w : World) (X : DsAt w b S) : Calls Tryz.prog 36 #[.pointer (some ⟨b, 0, none⟩), .agg (anL a).toArray] w fun e' w' => e' = .returned (.tuple #[]) ∧ DsAt w' b (S.dback 10 0) ∧ Kp [b] w w' := by
 have b1 := (Below.refl w.heap.size w).alloc (Nat.le_refl _) (.cells (anL a).toArray 62)
 have A := hide (IsB.new w (anL a).toArray 62)
 have y0 : (w.alloc (.cells (anL a).toArray 62)).cell? ⟨w.heap.size, 0, none⟩ = some (.int .i64 a.k) := cl_ak A.out
 have I := hide (IsB.below X b1)
 have KZ : Hid (Kp [b] w (w.alloc (.cells (anL a).toArray 62))) := Kp.of_below b1
 clear b1 X
 have y9 : (w.alloc (.cells (anL a).toArray 62)).cell? ⟨b, 9, none⟩ = some (.int .i64 S.pl) := dcl_at I.out
 rw [hp] at y9
 clear hp
 have e3 : (a.k == 3) = false := by simpa using hk3
 generalize a.k = ak at *
 go_enter Tryz.func36, Tryz.ntmps36
 go_wp2_with fail
 refine (back_any b S 10 0 _ I.out).mono ?_
 rintro e' w9 ⟨rfl, I9, K9⟩
 have F6 := hide I9
 have K7 := hide (KZ.out.tr K9)
 clear I9 K9
 try go_wp2
 refine bodyPost_end (results_none rfl _ _ _) rfl ?_
 exact ⟨rfl, F6.out, K7.out⟩

set_option maxHeartbeats 2000000 in
set_option maxRecDepth 100000 in
theorem dt_7 (b : Nat) (S : Us) (a : An) (hp : S.pl = 7) (w : World) (X : DsAt w b S) : Calls Tryz.prog 36 #[.pointer (some ⟨b, 0, none⟩), .agg (anL a).toArray] w fun e' w' => e' = .returned (.tuple #[]) ∧ DsAt w' b (S.dback 9 0) ∧ Kp [b] w w' := by
 have b1 := (Below.refl w.heap.size w).alloc (Nat.le_refl _) (.cells (anL a).toArray 62)
 have A := hide (IsB.new w (anL a).toArray 62)
 have y0 : (w.alloc (.cells (anL a).toArray 62)).cell? ⟨w.heap.size, 0, none⟩ = some (.int .i64 a.k) := cl_ak A.out
 have I := hide (IsB.below X b1)
 have KZ : Hid (Kp [b] w (w.alloc (.cells (anL a).toArray 62))) := Kp.of_below b1
 clear b1 X
 have y9 : (w.alloc (.cells (anL a).toArray 62)).cell? ⟨b, 9, none⟩ = some (.int .i64 S.pl) := dcl_at I.out
 rw [hp] at y9
 clear hp
 go_enter Tryz.func36, Tryz.ntmps36
 go_wp2_with fail
 refine (back_any b S 9 0 _ I.out).mono ?_
 rintro e' w9 ⟨rfl, I9, K9⟩
 have F6 := hide I9
 have K7 := hide (KZ.out.tr K9)
 clear I9 K9
 try go_wp2
 refine bodyPost_end (results_none rfl _ _ _) rfl ?_
 exact ⟨rfl, F6.out, K7.out⟩

set_option maxHeartbeats 2000000 in
set_option maxRecDepth 100000 in
theorem dt_8 (b : Nat) (S : Us) (a : An) (hp : S.pl = 8) (w : World) (X : DsAt w b S) : Calls Tryz.prog 36 #[.pointer (some ⟨b, 0, none⟩), .agg (anL a).toArray] w fun e' w' => e' = .returned (.tuple #[]) ∧ DsAt w' b ({ S with pl := S.bh }) ∧ Kp [b] w w' := by
 have b1 := (Below.refl w.heap.size w).alloc (Nat.le_refl _) (.cells (anL a).toArray 62)
 have A := hide (IsB.new w (anL a).toArray 62)
 have y0 : (w.alloc (.cells (anL a).toArray 62)).cell? ⟨w.heap.size, 0, none⟩ = some (.int .i64 a.k) := cl_ak A.out
 have I := hide (IsB.below X b1)
 have KZ : Hid (Kp [b] w (w.alloc (.cells (anL a).toArray 62))) := Kp.of_below b1
 clear b1 X
 have y9 : (w.alloc (.cells (anL a).toArray 62)).cell? ⟨b, 9, none⟩ = some (.int .i64 S.pl) := dcl_at I.out
 rw [hp] at y9
 clear hp
 have y20 : (w.alloc (.cells (anL a).toArray 62)).cell? ⟨b, 20, none⟩ = some (.int .i64 S.bh) := dcl_bh I.out
 obtain ⟨w2, hs2, I2, k2⟩ := dst_at I.out S.bh
 have HS2 := hide hs2
 have F6 := hide I2
 have K7 := hide (KZ.out.tr k2)
 clear hs2 I2 k2
 go_enter Tryz.func36, Tryz.ntmps36
 go_wp2_with (first | (focus ((with_reducible refine wpList_store_w ?_ 3 (.tmp 97) (.tmp 95) ?_ ?_ ?_ HS2.out ?_); rotate_left; rfl; rfl; rfl; rotate_left; rfl)))
 try go_wp2
 refine bodyPost_end (results_none rfl _ _ _) rfl ?_
 exact ⟨rfl, F6.out, K7.out⟩

set_option maxHeartbeats 2000000 in
set_option maxRecDepth 100000 in
theorem dt_not (b : Nat) (S : Us) (a : An) (hp : S.pl = 9 ∨ S.pl = 10) (w : World) (X : DsAt w b S) : Calls Tryz.prog 36 #[.pointer (some ⟨b, 0, none⟩), .agg (anL a).toArray] w fun e' w' => e' = .returned (.tuple #[]) ∧ DsAt w' b (S) ∧ Kp [b] w w' := by
 have b1 := (Below.refl w.heap.size w).alloc (Nat.le_refl _) (.cells (anL a).toArray 62)
 have A := hide (IsB.new w (anL a).toArray 62)
 have y0 : (w.alloc (.cells (anL a).toArray 62)).cell? ⟨w.heap.size, 0, none⟩ = some (.int .i64 a.k) := cl_ak A.out
 have I := hide (IsB.below X b1)
 have KZ : Hid (Kp [b] w (w.alloc (.cells (anL a).toArray 62))) := Kp.of_below b1
 clear b1 X
 have y9 : (w.alloc (.cells (anL a).toArray 62)).cell? ⟨b, 9, none⟩ = some (.int .i64 S.pl) := dcl_at I.out
 have F6 := I
 have K7 := KZ
 rcases hp with hp | hp
 · rw [hp] at y9
   clear hp
   go_enter Tryz.func36, Tryz.ntmps36
   go_wp2
   refine bodyPost_ret (results_none rfl _ _ _) rfl ?_
   exact ⟨rfl, F6.out, K7.out⟩
 · rw [hp] at y9
   clear hp
   go_enter Tryz.func36, Tryz.ntmps36
   go_wp2
   refine bodyPost_ret (results_none rfl _ _ _) rfl ?_
   exact ⟨rfl, F6.out, K7.out⟩

theorem dtell_any (b : Nat) (S : Us) (a : An) (hl : 1 ≤ S.pl) (hr : S.pl ≤ 10) (w : World) (X : DsAt w b S) : Calls Tryz.prog 36 #[.pointer (some ⟨b, 0, none⟩), .agg (anL a).toArray] w fun e' w' => e' = .returned (.tuple #[]) ∧ DsAt w' b (S.dtell a) ∧ Kp [b] w w' := by
 unfold Us.dtell
 by_cases h1 : S.pl = 1
 · rw [if_pos h1]; exact dt_1 b S a h1 w X
 rw [if_neg h1]
 by_cases h2 : S.pl = 2
 · rw [if_pos h2]
   by_cases hk : a.k = 1
   · by_cases he : a.r = S.me
     · rw [if_pos ⟨hk, he⟩]; exact dt_2me b S a h2 hk he w X
     · rw [if_neg fun h => he h.2, if_pos hk]; exact dt_2ot b S a h2 hk he w X
   · rw [if_neg fun h => hk h.1, if_neg hk]; exact dt_2no b S a h2 hk w X
 rw [if_neg h2]
 by_cases h3 : S.pl = 3
 · rw [if_pos h3]; exact dt_3 b S a h3 w X
 rw [if_neg h3]
 by_cases h4 : S.pl = 4
 · rw [if_pos h4]
   by_cases hk : a.k = 1
   · rw [if_pos (Or.inl hk)]; exact dt_4ok b S a h4 hk w X
   · by_cases hk3 : a.k = 3
     · by_cases he : a.r = S.rg
       · rw [if_pos (Or.inr ⟨hk3, he⟩)]; exact dt_4same b S a h4 hk3 he w X
       · rw [if_neg fun h => h.elim hk fun h => he h.2]; exact dt_4dead b S a h4 hk3 he w X
     · rw [if_neg fun h => h.elim hk fun h => hk3 h.1]; exact dt_4no b S a h4 hk hk3 w X
 rw [if_neg h4]
 by_cases h5 : S.pl = 5
 · rw [if_pos h5]; exact dt_5 b S a h5 w X
 rw [if_neg h5]
 by_cases h6 : S.pl = 6
 · rw [if_pos h6]
   by_cases hk3 : a.k = 3
   · rw [if_pos hk3]; exact dt_6dead b S a h6 hk3 w X
   · rw [if_neg hk3]; exact dt_6 b S a h6 hk3 w X
 rw [if_neg h6]
 by_cases h7 : S.pl = 7
 · rw [if_pos h7]; exact dt_7 b S a h7 w X
 rw [if_neg h7]
 by_cases h8 : S.pl = 8
 · rw [if_pos h8]; exact dt_8 b S a h8 w X
 rw [if_neg h8]
 exact dt_not b S a (by omega) w X

set_option maxHeartbeats 2000000 in
set_option maxRecDepth 100000 in
theorem dw_yes (b : Nat) (S : Us) (hp : S.pl = 9) (w : World) (X : DsAt w b S) : Calls Tryz.prog 40 #[.pointer (some ⟨b, 0, none⟩)] w fun e' w' => e' = .returned (.tuple #[]) ∧ DsAt w' b ({ S with pl := 1 }) ∧ Kp [b] w w' := by
 have I := hide X
 have y9 : w.cell? ⟨b, 9, none⟩ = some (.int .i64 S.pl) := dcl_at X
 rw [hp] at y9
 clear hp X
 have KZ := hide (Kp.refl [b] w)
 obtain ⟨w2, hs2, I2, k2⟩ := dst_at I.out 1
 have HS2 := hide hs2
 have F6 := hide I2
 have K7 := hide (KZ.out.tr k2)
 clear hs2 I2 k2
 go_enter Tryz.func40, Tryz.ntmps40
 go_wp2_with (first | (focus ((with_reducible refine wpList_store_w ?_ 3 (.tmp 9) (.const (.int .i64 1)) ?_ ?_ ?_ HS2.out ?_); rotate_left; rfl; rfl; rfl; rotate_left; rfl)))
 try go_wp2
 refine bodyPost_end (results_none rfl _ _ _) rfl ?_
 exact ⟨rfl, F6.out, K7.out⟩

set_option maxHeartbeats 2000000 in
set_option maxRecDepth 100000 in
theorem dw_no (b : Nat) (S : Us) (hp : ¬S.pl = 9) (w : World) (X : DsAt w b S) : Calls Tryz.prog 40 #[.pointer (some ⟨b, 0, none⟩)] w fun e' w' => e' = .returned (.tuple #[]) ∧ DsAt w' b (S) ∧ Kp [b] w w' := by
 have F6 := hide X
 have K7 := hide (Kp.refl [b] w)
 have y9 : w.cell? ⟨b, 9, none⟩ = some (.int .i64 S.pl) := dcl_at X
 have e1 : (S.pl == 9) = false := by simpa using hp
 clear hp X
 generalize hg : S.pl = pl at *
 replace hg := hide hg
 go_enter Tryz.func40, Tryz.ntmps40
 try go_wp2
 refine bodyPost_end (results_none rfl _ _ _) rfl ?_
 exact ⟨rfl, F6.out, K7.out⟩

/-- A tick. -/
def _root_.Go.Proofs.YtokehogcenjefaaGreatDoor.Us.dwake (S : Us) : Us := if S.pl = 9 then { S with pl := 1 } else S
theorem dwake_any (b : Nat) (S : Us) (w : World) (X : DsAt w b S) : Calls Tryz.prog 40 #[.pointer (some ⟨b, 0, none⟩)] w fun e' w' => e' = .returned (.tuple #[]) ∧ DsAt w' b S.dwake ∧ Kp [b] w w' := by
 unfold Us.dwake
 by_cases hp : S.pl = 9
 · rw [if_pos hp]; exact dw_yes b S hp w X
 · rw [if_neg hp]; exact dw_no b S hp w X

end Go.Proofs.YtokehogcenjefaaGreatDoor.Un
