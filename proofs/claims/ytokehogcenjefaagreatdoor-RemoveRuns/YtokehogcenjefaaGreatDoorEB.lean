/- away, ending, endBehind, hearRead, hearLockLeft, hearLockMe, hearRight. -/
import Derived.Test.YtokehogcenjefaaGreatDoorEA
namespace Go.Proofs.YtokehogcenjefaaGreatDoor
open Go.RowKit Go.Maps Go.ChangeMaps










theorem eqr_w (x y : Rf) (w : World) : (binOp .eql 29 (.agg x.cells) (.agg y.cells)).run Tryz.prog w = .ok (.bool (decide (x = y))) w := by
 refine (eqr x.id x.rk x.kn x.ln x.bt y.id y.rk y.kn y.ln y.bt w).trans ?_
 congr 2
 cases x; cases y
 rw [Bool.eq_iff_iff]
 simp [and_assoc]
theorem ner_w (x y : Rf) (w : World) : (binOp .neq 29 (.agg x.cells) (.agg y.cells)).run Tryz.prog w = .ok (.bool (!decide (x = y))) w := by
 refine (ner x.id x.rk x.kn x.ln x.bt y.id y.rk y.kn y.ln y.bt w).trans ?_
 congr 3
 cases x; cases y
 rw [Bool.eq_iff_iff]
 simp [and_assoc]
/-- Is it not in the list, or dead? -/
def awB (k : Int) : Bool := k == 2 || k == 3
/-- The error with which it is over. -/
def endE (k : Int) : Int := if k = 3 then 132 else 0

set_option maxHeartbeats 2000000 in
set_option maxRecDepth 100000 in
theorem away_any (a : An) (w : World) : Calls Tryz.prog 174 #[.agg (anL a).toArray] w fun e' w' => e' = .returned (.bool (awB a.k)) ∧ Below w.heap.size w w' := by
 have b1 := (Below.refl w.heap.size w).alloc (Nat.le_refl _) (.cells (anL a).toArray 62)
 have A := hide (IsB.new w (anL a).toArray 62)
 have y0 : (w.alloc (.cells (anL a).toArray 62)).cell? ⟨w.heap.size, 0, none⟩ = some (.int .i64 a.k) := cl_ak A.out
 have B := hide b1
 clear b1 A
 by_cases h2 : a.k = 2
 · have E : awB a.k = true := by rw [h2]; rfl
   rw [E]
   rw [h2] at y0
   clear E h2
   go_enter Tryz.func174, Tryz.ntmps174
   go_wp2
   go_ret
   exact ⟨rfl, B.out⟩
 by_cases h3 : a.k = 3
 · have E : awB a.k = true := by rw [h3]; rfl
   rw [E]
   rw [h3] at y0
   clear E h3
   go_enter Tryz.func174, Tryz.ntmps174
   go_wp2
   go_ret
   exact ⟨rfl, B.out⟩
 have E : awB a.k = false := by unfold awB; simp [h2, h3]
 rw [E]
 have e2 : (a.k == 2) = false := by simpa using h2
 have e3 : (a.k == 3) = false := by simpa using h3
 generalize a.k = ak at *
 clear E
 clear h2 h3
 go_enter Tryz.func174, Tryz.ntmps174
 go_wp2
 go_ret
 exact ⟨rfl, B.out⟩

set_option maxHeartbeats 2000000 in
set_option maxRecDepth 100000 in
theorem ending_any (a : An) (w : World) : Calls Tryz.prog 175 #[.agg (anL a).toArray] w fun e' w' => e' = .returned (.int .i64 (endE a.k)) ∧ Below w.heap.size w w' := by
 have b1 := (Below.refl w.heap.size w).alloc (Nat.le_refl _) (.cells (anL a).toArray 62)
 have A := hide (IsB.new w (anL a).toArray 62)
 have y0 : (w.alloc (.cells (anL a).toArray 62)).cell? ⟨w.heap.size, 0, none⟩ = some (.int .i64 a.k) := cl_ak A.out
 have B := hide b1
 clear b1 A
 by_cases h3 : a.k = 3
 · have E : endE a.k = 132 := by rw [h3]; rfl
   rw [E]
   rw [h3] at y0
   clear E h3
   go_enter Tryz.func175, Tryz.ntmps175
   go_wp2
   go_ret
   exact ⟨rfl, B.out⟩
 have E : endE a.k = 0 := if_neg h3
 rw [E]
 have e3 : (a.k == 3) = false := by simpa using h3
 generalize a.k = ak at *
 clear E
 clear h3
 go_enter Tryz.func175, Tryz.ntmps175
 go_wp2
 go_ret
 exact ⟨rfl, B.out⟩

set_option maxHeartbeats 2000000 in
set_option maxRecDepth 100000 in
theorem endB_any (b : Nat) (S : Us) (a : An) (w : World) (X : UsAt w b S) : Calls Tryz.prog 173 #[.pointer (some ⟨b, 0, none⟩), .agg (anL a).toArray] w fun e' w' => e' = .returned (.tuple #[]) ∧ UsAt w' b ({ S with bh := 10, e := endE a.k }) ∧ Kp [b] w w' := by
 have b1 := (Below.refl w.heap.size w).alloc (Nat.le_refl _) (.cells (anL a).toArray 62)
 have A := hide (IsB.new w (anL a).toArray 62)
 have y0 : (w.alloc (.cells (anL a).toArray 62)).cell? ⟨w.heap.size, 0, none⟩ = some (.int .i64 a.k) := cl_ak A.out
 have I := hide (X.below b1)
 have KZ : Hid (Kp [b] w (w.alloc (.cells (anL a).toArray 62))) := Kp.of_below b1
 clear b1 X
 have LA := hide (ld_ans A.out)
 clear y0
 go_enter Tryz.func173, Tryz.ntmps173
 go_wp2_with (first | (focus ((with_reducible refine wpList_load_w ?_ 62 (.tmp 3) ?_ ?_ LA.out ?_); rotate_left; rfl; rfl; rotate_left; rfl)))
 refine (ending_any a _).mono ?_
 rintro e' w3 ⟨rfl, hb⟩
 replace I := hide (I.out.below hb)
 replace A := hide (A.out.below hb)
 replace KZ := hide (KZ.out.bel hb)
 clear hb
 obtain ⟨w4, hs4, I4, k4⟩ := st_bh I.out 10
 have HS4 := hide hs4
 obtain ⟨w5, hs5, I5, k5⟩ := st_e I4 (endE a.k)
 have HS5 := hide hs5
 have F6 := hide I5
 have K7 := hide (KZ.out.tr (k4.tr k5))
 clear hs4 I4 k4 hs5 I5 k5
 go_wp2_with (first | (focus ((with_reducible refine wpList_store_w ?_ 213 (.tmp 9) (.const (.int .i64 10)) ?_ ?_ ?_ HS4.out ?_); rotate_left; rfl; rfl; rfl; rotate_left; rfl)) | (focus ((with_reducible refine wpList_store_w ?_ 37 (.tmp 11) (.tmp 7) ?_ ?_ ?_ HS5.out ?_); rotate_left; rfl; rfl; rfl; rotate_left; rfl)))
 try go_wp2
 refine bodyPost_end (results_none rfl _ _ _) rfl ?_
 exact ⟨rfl, F6.out, K7.out⟩

/-- Told who stands to its left. -/
def Us.hRead (S : Us) (a : An) : Us := if a.k = 1 ∧ klt (a.l.rk, a.l.kn) (S.me.rk, S.me.kn) = true then { S with pl := 2, lf := a.l } else if awB a.k = true then { S with pl := 10, e := endE a.k } else { S with pl := 9 }

set_option maxHeartbeats 2000000 in
set_option maxRecDepth 100000 in
theorem read_go (b : Nat) (S : Us) (a : An) (hk : a.k = 1) (hl : klt (a.l.rk, a.l.kn) (S.me.rk, S.me.kn) = true) (w : World) (X : UsAt w b S) : Calls Tryz.prog 169 #[.pointer (some ⟨b, 0, none⟩), .agg (anL a).toArray] w fun e' w' => e' = .returned (.tuple #[]) ∧ UsAt w' b ({ S with pl := 2, lf := a.l }) ∧ Kp [b] w w' := by
 have mixed : Tryz.prog.follows .mixedOrders = true := by kernel_rfl
 have b1 := (Below.refl w.heap.size w).alloc (Nat.le_refl _) (.cells (anL a).toArray 62)
 have A := hide (IsB.new w (anL a).toArray 62)
 have y0 : (w.alloc (.cells (anL a).toArray 62)).cell? ⟨w.heap.size, 0, none⟩ = some (.int .i64 a.k) := cl_ak A.out
 have I := hide (X.below b1)
 have KZ : Hid (Kp [b] w (w.alloc (.cells (anL a).toArray 62))) := Kp.of_below b1
 clear b1 X
 rw [hk] at y0
 replace hk := hide hk
 have HL := hide hl
 clear hl
 go_enter Tryz.func169, Tryz.ntmps169
 go_wp2_with fail
 generalize (w.alloc (.cells (anL a).toArray 62)) = WA at *
 obtain ⟨H, hH⟩ : ∃ H, w.heap.size = H := ⟨_, rfl⟩
 rw [hH] at A y0 ⊢
 replace hH := hide hH
 clear y0
 have ID := hide (I.out.below ((Below.refl _ _).drew))
 have AD := hide (A.out.below ((Below.refl _ _).drew))
 have KD := hide (KZ.out.bel ((Below.refl _ _).drew))
 clear I A KZ
 refine regionL 16 (fun w' => UsAt w' b S ∧ IsB w' H (anL a).toArray 62) mixed ⟨ID.out, AD.out⟩ (fun hHeld => ?_)
 generalize WA.drew = WD2 at *
 refine pkA (v := ?_) 0 (some 8) rfl rfl ?_ (by assumption) ?_
 rotate_left
 · intro w'
   go_simp
   try with_reducible rfl
 try simp only [Act.put, zqa, zqb, zqc]
 refine pkL (v := ?_) 1 (some 9) rfl rfl ?_ (by assumption) ?_
 rotate_left
 · intro w' hSw
   obtain ⟨q0, q1⟩ := hSw
   have z0 := cl_ak q1
   rw [hk.out] at z0
   go_simp
   try with_reducible rfl
 try simp only [Act.put, zqa, zqb, zqc]
 refine pkA (v := ?_) 2 (some 10) rfl rfl ?_ (by assumption) ?_
 rotate_left
 · intro w'
   go_simp
   try with_reducible rfl
 try simp only [Act.put, zqa, zqb, zqc]
 refine pkA (v := ?_) 3 (some 11) rfl rfl ?_ (by assumption) ?_
 rotate_left
 · intro w'
   go_simp
   try with_reducible rfl
 try simp only [Act.put, zqa, zqb, zqc]
 refine pkA (v := ?_) 4 (some 12) rfl rfl ?_ (by assumption) ?_
 rotate_left
 · intro w'
   go_simp
   try with_reducible rfl
 try simp only [Act.put, zqa, zqb, zqc]
 refine pkA (v := ?_) 5 (some 13) rfl rfl ?_ (by assumption) ?_
 rotate_left
 · intro w'
   go_simp
   try with_reducible rfl
 try simp only [Act.put, zqa, zqb, zqc]
 refine pkL (v := .agg #[.int .i64 a.l.rk, .int .u64 a.l.kn]) 6 (some 14) rfl rfl ?_ (by assumption) ?_
 · intro w' hSw
   obtain ⟨q0, q1⟩ := hSw
   have z0 := cl_ak q1
   rw [hk.out] at z0
   exact exec_load rfl rfl (ld_ualk q1)
 try simp only [Act.put, zqa, zqb, zqc]
 refine pkA (v := ?_) 7 (some 15) rfl rfl ?_ (by assumption) ?_
 rotate_left
 · intro w'
   go_simp
   try with_reducible rfl
 try simp only [Act.put, zqa, zqb, zqc]
 refine pkA (v := ?_) 8 (some 16) rfl rfl ?_ (by assumption) ?_
 rotate_left
 · intro w'
   go_simp
   try with_reducible rfl
 try simp only [Act.put, zqa, zqb, zqc]
 refine pkA (v := ?_) 9 (some 17) rfl rfl ?_ (by assumption) ?_
 rotate_left
 · intro w'
   go_simp
   try with_reducible rfl
 try simp only [Act.put, zqa, zqb, zqc]
 refine pkA (v := ?_) 10 (some 18) rfl rfl ?_ (by assumption) ?_
 rotate_left
 · intro w'
   go_simp
   try with_reducible rfl
 try simp only [Act.put, zqa, zqb, zqc]
 refine pkA (v := ?_) 11 (some 19) rfl rfl ?_ (by assumption) ?_
 rotate_left
 · intro w'
   go_simp
   try with_reducible rfl
 try simp only [Act.put, zqa, zqb, zqc]
 refine pkL (v := .agg #[.int .i64 S.me.rk, .int .u64 S.me.kn]) 12 (some 20) rfl rfl ?_ (by assumption) ?_
 · intro w' hSw
   obtain ⟨q0, q1⟩ := hSw
   have z0 := cl_ak q1
   rw [hk.out] at z0
   exact exec_load rfl rfl (ld_mek q0)
 try simp only [Act.put, zqa, zqb, zqc]
 refine oneL (i := 13) (by kernel_rfl) rfl (fun K hK => ?_)
 go_simp
 refine (kLess_any a.l.rk a.l.kn S.me.rk S.me.kn WD2).mono ?_
 rintro e' w2 ⟨rfl, hg⟩
 rw [HL.out]
 have I := hide (ID.out.below hg.below)
 have A := hide (AD.out.below hg.below)
 have KZ := hide (KD.out.bel hg.below)
 clear hg
 refine hK.out _ _ ?_ ?_
 · exact ⟨I.out, A.out⟩
 clear hK K
 try simp only [Act.put, zqa, zqb, zqc]
 clear hHeld
 have hHeld : (fun w' => UsAt w' b S ∧ IsB w' H (anL a).toArray 62) w2 := ⟨I.out, A.out⟩
 refine pkA (v := ?_) 14 (some 22) rfl rfl ?_ (by assumption) ?_
 rotate_left
 · intro w'
   go_simp
   try with_reducible rfl
 try simp only [Act.put, zqa, zqb, zqc]
 refine pkA (v := ?_) 15 (some 7) rfl rfl ?_ (by assumption) ?_
 rotate_left
 · intro w'
   go_simp
   try with_reducible rfl
 try simp only [Act.put, zqa, zqb, zqc]
 refine doneL (by kernel_rfl) ?_ _
 clear hHeld
 clear ID AD KD
 have ID := hide (I.out.below ((Below.refl _ _).drew))
 have AD := hide (A.out.below ((Below.refl _ _).drew))
 have KD := hide (KZ.out.bel ((Below.refl _ _).drew))
 obtain ⟨w3, hs3, I3, k3⟩ := st_at ID.out 2
 have HS3 := hide hs3
 obtain ⟨w4, hs4, I4, k4⟩ := st_left I3 a.l
 have HS4 := hide hs4
 have hne : H ≠ b := fun e => IsB.ne_t AD.out ID.out (by decide) e
 have A2 := hide (AD.out.kp k3 (by simpa using hne))
 have F6 := hide I4
 have K7 := hide (KD.out.tr (k3.tr k4))
 clear hs3 I3 k3 hs4 I4 k4
 clear I A KZ ID KD hne
 go_wp2_with fail
 refine regionL 9 (fun w' => IsB w' H (anL a).toArray 62) mixed AD.out (fun hHeld => ?_)
 generalize w2.drew = WD2 at *
 refine pkA (v := ?_) 0 (some 23) rfl rfl ?_ (by assumption) ?_
 rotate_left
 · intro w'
   go_simp
   try with_reducible rfl
 try simp only [Act.put, zqa, zqb, zqc]
 refine pkA (v := ?_) 1 (some 24) rfl rfl ?_ (by assumption) ?_
 rotate_left
 · intro w'
   go_simp
   try with_reducible rfl
 try simp only [Act.put, zqa, zqb, zqc]
 refine pkA (v := ?_) 2 (some 25) rfl rfl ?_ (by assumption) ?_
 rotate_left
 · intro w'
   go_simp
   try with_reducible rfl
 try simp only [Act.put, zqa, zqb, zqc]
 refine pkL (v := .agg a.l.cells) 3 (some 26) rfl rfl ?_ (by assumption) ?_
 · intro w' hSw
   have q1 := hSw
   exact exec_load rfl rfl (ld_al q1)
 try simp only [Act.put, zqa, zqb, zqc]
 refine pkA (v := ?_) 4 (some 27) rfl rfl ?_ (by assumption) ?_
 rotate_left
 · intro w'
   go_simp
   try with_reducible rfl
 try simp only [Act.put, zqa, zqb, zqc]
 refine pkA (v := ?_) 5 (some 28) rfl rfl ?_ (by assumption) ?_
 rotate_left
 · intro w'
   go_simp
   try with_reducible rfl
 try simp only [Act.put, zqa, zqb, zqc]
 refine oneL (i := 6) (by kernel_rfl) rfl (fun K hK => ?_)
 refine step_store_w rfl 213 (.tmp 28) (.const (.int .i64 2)) rfl rfl rfl HS3.out ?_
 refine hK.out _ _ ?_ ?_
 · exact A2.out
 clear hK K
 try simp only [Act.put, List.setIfInBounds_toArray]
 clear hHeld
 have hHeld : (fun w' => IsB w' H (anL a).toArray 62) w3 := A2.out
 refine pkA (v := ?_) 7 (some 29) rfl rfl ?_ (by assumption) ?_
 rotate_left
 · intro w'
   go_simp
   try with_reducible rfl
 try simp only [Act.put]
 refine pkA (v := ?_) 8 (some 30) rfl rfl ?_ (by assumption) ?_
 rotate_left
 · intro w'
   go_simp
   try with_reducible rfl
 try simp only [Act.put]
 refine lateL (i := 9) (by kernel_rfl) rfl (by decide) (by kernel_rfl) (fun K hK => ?_)
 refine step_store_w rfl 29 (.tmp 30) (.tmp 26) rfl rfl rfl HS4.out ?_
 refine hK.out _ _ ?_
 clear hK K
 try simp only [Act.put]
 refine doneL (by kernel_rfl) ?_ _
 clear hHeld
 try go_wp2
 refine bodyPost_end (results_none rfl _ _ _) rfl ?_
 exact ⟨rfl, F6.out, K7.out⟩

set_option maxHeartbeats 2000000 in
set_option maxRecDepth 100000 in
theorem read_wait1 (b : Nat) (S : Us) (a : An) (hk : a.k = 1) (hl : klt (a.l.rk, a.l.kn) (S.me.rk, S.me.kn) = false) (w : World) (X : UsAt w b S) : Calls Tryz.prog 169 #[.pointer (some ⟨b, 0, none⟩), .agg (anL a).toArray] w fun e' w' => e' = .returned (.tuple #[]) ∧ UsAt w' b ({ S with pl := 9 }) ∧ Kp [b] w w' := by
 have mixed : Tryz.prog.follows .mixedOrders = true := by kernel_rfl
 have b1 := (Below.refl w.heap.size w).alloc (Nat.le_refl _) (.cells (anL a).toArray 62)
 have A := hide (IsB.new w (anL a).toArray 62)
 have y0 : (w.alloc (.cells (anL a).toArray 62)).cell? ⟨w.heap.size, 0, none⟩ = some (.int .i64 a.k) := cl_ak A.out
 have I := hide (X.below b1)
 have KZ : Hid (Kp [b] w (w.alloc (.cells (anL a).toArray 62))) := Kp.of_below b1
 clear b1 X
 have HA : Hid (awB a.k = false) := by rw [hk]; rfl
 rw [hk] at y0
 replace hk := hide hk
 have HL := hide hl
 clear hl
 go_enter Tryz.func169, Tryz.ntmps169
 go_wp2_with fail
 generalize (w.alloc (.cells (anL a).toArray 62)) = WA at *
 obtain ⟨H, hH⟩ : ∃ H, w.heap.size = H := ⟨_, rfl⟩
 rw [hH] at A y0 ⊢
 replace hH := hide hH
 clear y0
 have ID := hide (I.out.below ((Below.refl _ _).drew))
 have AD := hide (A.out.below ((Below.refl _ _).drew))
 have KD := hide (KZ.out.bel ((Below.refl _ _).drew))
 clear I A KZ
 refine regionL 16 (fun w' => UsAt w' b S ∧ IsB w' H (anL a).toArray 62) mixed ⟨ID.out, AD.out⟩ (fun hHeld => ?_)
 generalize WA.drew = WD2 at *
 refine pkA (v := ?_) 0 (some 8) rfl rfl ?_ (by assumption) ?_
 rotate_left
 · intro w'
   go_simp
   try with_reducible rfl
 try simp only [Act.put, zqa, zqb, zqc]
 refine pkL (v := ?_) 1 (some 9) rfl rfl ?_ (by assumption) ?_
 rotate_left
 · intro w' hSw
   obtain ⟨q0, q1⟩ := hSw
   have z0 := cl_ak q1
   rw [hk.out] at z0
   go_simp
   try with_reducible rfl
 try simp only [Act.put, zqa, zqb, zqc]
 refine pkA (v := ?_) 2 (some 10) rfl rfl ?_ (by assumption) ?_
 rotate_left
 · intro w'
   go_simp
   try with_reducible rfl
 try simp only [Act.put, zqa, zqb, zqc]
 refine pkA (v := ?_) 3 (some 11) rfl rfl ?_ (by assumption) ?_
 rotate_left
 · intro w'
   go_simp
   try with_reducible rfl
 try simp only [Act.put, zqa, zqb, zqc]
 refine pkA (v := ?_) 4 (some 12) rfl rfl ?_ (by assumption) ?_
 rotate_left
 · intro w'
   go_simp
   try with_reducible rfl
 try simp only [Act.put, zqa, zqb, zqc]
 refine pkA (v := ?_) 5 (some 13) rfl rfl ?_ (by assumption) ?_
 rotate_left
 · intro w'
   go_simp
   try with_reducible rfl
 try simp only [Act.put, zqa, zqb, zqc]
 refine pkL (v := .agg #[.int .i64 a.l.rk, .int .u64 a.l.kn]) 6 (some 14) rfl rfl ?_ (by assumption) ?_
 · intro w' hSw
   obtain ⟨q0, q1⟩ := hSw
   have z0 := cl_ak q1
   rw [hk.out] at z0
   exact exec_load rfl rfl (ld_ualk q1)
 try simp only [Act.put, zqa, zqb, zqc]
 refine pkA (v := ?_) 7 (some 15) rfl rfl ?_ (by assumption) ?_
 rotate_left
 · intro w'
   go_simp
   try with_reducible rfl
 try simp only [Act.put, zqa, zqb, zqc]
 refine pkA (v := ?_) 8 (some 16) rfl rfl ?_ (by assumption) ?_
 rotate_left
 · intro w'
   go_simp
   try with_reducible rfl
 try simp only [Act.put, zqa, zqb, zqc]
 refine pkA (v := ?_) 9 (some 17) rfl rfl ?_ (by assumption) ?_
 rotate_left
 · intro w'
   go_simp
   try with_reducible rfl
 try simp only [Act.put, zqa, zqb, zqc]
 refine pkA (v := ?_) 10 (some 18) rfl rfl ?_ (by assumption) ?_
 rotate_left
 · intro w'
   go_simp
   try with_reducible rfl
 try simp only [Act.put, zqa, zqb, zqc]
 refine pkA (v := ?_) 11 (some 19) rfl rfl ?_ (by assumption) ?_
 rotate_left
 · intro w'
   go_simp
   try with_reducible rfl
 try simp only [Act.put, zqa, zqb, zqc]
 refine pkL (v := .agg #[.int .i64 S.me.rk, .int .u64 S.me.kn]) 12 (some 20) rfl rfl ?_ (by assumption) ?_
 · intro w' hSw
   obtain ⟨q0, q1⟩ := hSw
   have z0 := cl_ak q1
   rw [hk.out] at z0
   exact exec_load rfl rfl (ld_mek q0)
 try simp only [Act.put, zqa, zqb, zqc]
 refine oneL (i := 13) (by kernel_rfl) rfl (fun K hK => ?_)
 go_simp
 refine (kLess_any a.l.rk a.l.kn S.me.rk S.me.kn WD2).mono ?_
 rintro e' w2 ⟨rfl, hg⟩
 rw [HL.out]
 have I := hide (ID.out.below hg.below)
 have A := hide (AD.out.below hg.below)
 have KZ := hide (KD.out.bel hg.below)
 clear hg
 refine hK.out _ _ ?_ ?_
 · exact ⟨I.out, A.out⟩
 clear hK K
 try simp only [Act.put, zqa, zqb, zqc]
 clear hHeld
 have hHeld : (fun w' => UsAt w' b S ∧ IsB w' H (anL a).toArray 62) w2 := ⟨I.out, A.out⟩
 refine pkA (v := ?_) 14 (some 22) rfl rfl ?_ (by assumption) ?_
 rotate_left
 · intro w'
   go_simp
   try with_reducible rfl
 try simp only [Act.put, zqa, zqb, zqc]
 refine pkA (v := ?_) 15 (some 7) rfl rfl ?_ (by assumption) ?_
 rotate_left
 · intro w'
   go_simp
   try with_reducible rfl
 try simp only [Act.put, zqa, zqb, zqc]
 refine doneL (by kernel_rfl) ?_ _
 clear hHeld
 clear ID AD KD
 have LA := hide (ld_ans A.out)
 go_wp2_with (first | (focus ((with_reducible refine wpList_load_w ?_ 62 (.tmp 3) ?_ ?_ LA.out ?_); rotate_left; rfl; rfl; rotate_left; rfl)))
 refine (away_any a _).mono ?_
 rintro e' w3 ⟨rfl, hb⟩
 rw [HA.out]
 replace I := hide (I.out.below hb)
 replace A := hide (A.out.below hb)
 replace KZ := hide (KZ.out.bel hb)
 clear hb LA
 obtain ⟨w4, hs4, I4, k4⟩ := st_at I.out 9
 have HS4 := hide hs4
 have F6 := hide I4
 have K7 := hide (KZ.out.tr k4)
 clear hs4 I4 k4
 go_wp2_with (first | (focus ((with_reducible refine wpList_store_w ?_ 213 (.tmp 6) (.const (.int .i64 9)) ?_ ?_ ?_ HS4.out ?_); rotate_left; rfl; rfl; rfl; rotate_left; rfl)))
 try go_wp2
 refine bodyPost_end (results_none rfl _ _ _) rfl ?_
 exact ⟨rfl, F6.out, K7.out⟩

set_option maxHeartbeats 2000000 in
set_option maxRecDepth 100000 in
theorem read_wait (b : Nat) (S : Us) (a : An) (hk : ¬a.k = 1) (ha : awB a.k = false) (w : World) (X : UsAt w b S) : Calls Tryz.prog 169 #[.pointer (some ⟨b, 0, none⟩), .agg (anL a).toArray] w fun e' w' => e' = .returned (.tuple #[]) ∧ UsAt w' b ({ S with pl := 9 }) ∧ Kp [b] w w' := by
 have mixed : Tryz.prog.follows .mixedOrders = true := by kernel_rfl
 have b1 := (Below.refl w.heap.size w).alloc (Nat.le_refl _) (.cells (anL a).toArray 62)
 have A := hide (IsB.new w (anL a).toArray 62)
 have y0 : (w.alloc (.cells (anL a).toArray 62)).cell? ⟨w.heap.size, 0, none⟩ = some (.int .i64 a.k) := cl_ak A.out
 have I := hide (X.below b1)
 have KZ : Hid (Kp [b] w (w.alloc (.cells (anL a).toArray 62))) := Kp.of_below b1
 clear b1 X
 have HA := hide ha
 clear ha
 have e1 : (a.k == 1) = false := by simpa using hk
 have e1' : (a.k != 1) = true := by simpa using hk
 go_enter Tryz.func169, Tryz.ntmps169
 go_wp2_with fail
 generalize (w.alloc (.cells (anL a).toArray 62)) = WA at *
 obtain ⟨H, hH⟩ : ∃ H, w.heap.size = H := ⟨_, rfl⟩
 rw [hH] at A y0 ⊢
 replace hH := hide hH
 clear y0
 have ID := hide (I.out.below ((Below.refl _ _).drew))
 have AD := hide (A.out.below ((Below.refl _ _).drew))
 have KD := hide (KZ.out.bel ((Below.refl _ _).drew))
 clear I A KZ
 refine regionL 16 (fun w' => UsAt w' b S ∧ IsB w' H (anL a).toArray 62) mixed ⟨ID.out, AD.out⟩ (fun hHeld => ?_)
 generalize WA.drew = WD2 at *
 refine pkA (v := ?_) 0 (some 8) rfl rfl ?_ (by assumption) ?_
 rotate_left
 · intro w'
   go_simp
   try with_reducible rfl
 try simp only [Act.put, zqa, zqb, zqc]
 refine pkL (v := ?_) 1 (some 9) rfl rfl ?_ (by assumption) ?_
 rotate_left
 · intro w' hSw
   obtain ⟨q0, q1⟩ := hSw
   have z0 := cl_ak q1
   skip
   go_simp
   try with_reducible rfl
 try simp only [Act.put, zqa, zqb, zqc]
 refine pkA (v := ?_) 2 (some 10) rfl rfl ?_ (by assumption) ?_
 rotate_left
 · intro w'
   go_simp
   try with_reducible rfl
 try simp only [Act.put, zqa, zqb, zqc]
 refine pkA (v := ?_) 3 (some 11) rfl rfl ?_ (by assumption) ?_
 rotate_left
 · intro w'
   go_simp
   try with_reducible rfl
 try simp only [Act.put, zqa, zqb, zqc]
 refine pickN 4 (some 12) rfl rfl (by kernel_rfl) (by kernel_rfl) (by kernel_rfl) (by decide) (fun _ _ _ h => h) (by rfl) (by assumption) ?_
 try simp only [Act.put, zqa, zqb, zqc]
 refine pickN 5 (some 13) rfl rfl (by kernel_rfl) (by kernel_rfl) (by kernel_rfl) (by decide) (fun _ _ _ h => h) (by rfl) (by assumption) ?_
 try simp only [Act.put, zqa, zqb, zqc]
 refine pickN 6 (some 14) rfl rfl (by kernel_rfl) (by kernel_rfl) (by kernel_rfl) (by decide) (fun _ _ _ h => h) (by rfl) (by assumption) ?_
 try simp only [Act.put, zqa, zqb, zqc]
 refine pickN 7 (some 15) rfl rfl (by kernel_rfl) (by kernel_rfl) (by kernel_rfl) (by decide) (fun _ _ _ h => h) (by rfl) (by assumption) ?_
 try simp only [Act.put, zqa, zqb, zqc]
 refine pickN 8 (some 16) rfl rfl (by kernel_rfl) (by kernel_rfl) (by kernel_rfl) (by decide) (fun _ _ _ h => h) (by rfl) (by assumption) ?_
 try simp only [Act.put, zqa, zqb, zqc]
 refine pickN 9 (some 17) rfl rfl (by kernel_rfl) (by kernel_rfl) (by kernel_rfl) (by decide) (fun _ _ _ h => h) (by rfl) (by assumption) ?_
 try simp only [Act.put, zqa, zqb, zqc]
 refine pickN 10 (some 18) rfl rfl (by kernel_rfl) (by kernel_rfl) (by kernel_rfl) (by decide) (fun _ _ _ h => h) (by rfl) (by assumption) ?_
 try simp only [Act.put, zqa, zqb, zqc]
 refine pickN 11 (some 19) rfl rfl (by kernel_rfl) (by kernel_rfl) (by kernel_rfl) (by decide) (fun _ _ _ h => h) (by rfl) (by assumption) ?_
 try simp only [Act.put, zqa, zqb, zqc]
 refine pickN 12 (some 20) rfl rfl (by kernel_rfl) (by kernel_rfl) (by kernel_rfl) (by decide) (fun _ _ _ h => h) (by rfl) (by assumption) ?_
 try simp only [Act.put, zqa, zqb, zqc]
 refine pickN 13 (some 21) rfl rfl (by kernel_rfl) (by kernel_rfl) (by kernel_rfl) (by decide) (fun _ _ _ h => h) (by rfl) (by assumption) ?_
 try simp only [Act.put, zqa, zqb, zqc]
 refine pkA (v := ?_) 14 (some 22) rfl rfl ?_ (by assumption) ?_
 rotate_left
 · intro w'
   go_simp
   try with_reducible rfl
 try simp only [Act.put, zqa, zqb, zqc]
 refine pkA (v := ?_) 15 (some 7) rfl rfl ?_ (by assumption) ?_
 rotate_left
 · intro w'
   go_simp
   try with_reducible rfl
 try simp only [Act.put, zqa, zqb, zqc]
 refine doneL (by kernel_rfl) ?_ _
 clear hHeld
 have I := ID
 have A := AD
 have KZ := KD
 clear ID AD KD
 have LA := hide (ld_ans A.out)
 go_wp2_with (first | (focus ((with_reducible refine wpList_load_w ?_ 62 (.tmp 3) ?_ ?_ LA.out ?_); rotate_left; rfl; rfl; rotate_left; rfl)))
 refine (away_any a _).mono ?_
 rintro e' w3 ⟨rfl, hb⟩
 rw [HA.out]
 replace I := hide (I.out.below hb)
 replace A := hide (A.out.below hb)
 replace KZ := hide (KZ.out.bel hb)
 clear hb LA
 obtain ⟨w4, hs4, I4, k4⟩ := st_at I.out 9
 have HS4 := hide hs4
 have F6 := hide I4
 have K7 := hide (KZ.out.tr k4)
 clear hs4 I4 k4
 go_wp2_with (first | (focus ((with_reducible refine wpList_store_w ?_ 213 (.tmp 6) (.const (.int .i64 9)) ?_ ?_ ?_ HS4.out ?_); rotate_left; rfl; rfl; rfl; rotate_left; rfl)))
 try go_wp2
 refine bodyPost_end (results_none rfl _ _ _) rfl ?_
 exact ⟨rfl, F6.out, K7.out⟩

set_option maxHeartbeats 2000000 in
set_option maxRecDepth 100000 in
theorem read_end (b : Nat) (S : Us) (a : An) (hk : ¬a.k = 1) (ha : awB a.k = true) (w : World) (X : UsAt w b S) : Calls Tryz.prog 169 #[.pointer (some ⟨b, 0, none⟩), .agg (anL a).toArray] w fun e' w' => e' = .returned (.tuple #[]) ∧ UsAt w' b ({ S with pl := 10, e := endE a.k }) ∧ Kp [b] w w' := by
 have mixed : Tryz.prog.follows .mixedOrders = true := by kernel_rfl
 have b1 := (Below.refl w.heap.size w).alloc (Nat.le_refl _) (.cells (anL a).toArray 62)
 have A := hide (IsB.new w (anL a).toArray 62)
 have y0 : (w.alloc (.cells (anL a).toArray 62)).cell? ⟨w.heap.size, 0, none⟩ = some (.int .i64 a.k) := cl_ak A.out
 have I := hide (X.below b1)
 have KZ : Hid (Kp [b] w (w.alloc (.cells (anL a).toArray 62))) := Kp.of_below b1
 clear b1 X
 have HA := hide ha
 clear ha
 have e1 : (a.k == 1) = false := by simpa using hk
 have e1' : (a.k != 1) = true := by simpa using hk
 go_enter Tryz.func169, Tryz.ntmps169
 go_wp2_with fail
 generalize (w.alloc (.cells (anL a).toArray 62)) = WA at *
 obtain ⟨H, hH⟩ : ∃ H, w.heap.size = H := ⟨_, rfl⟩
 rw [hH] at A y0 ⊢
 replace hH := hide hH
 clear y0
 have ID := hide (I.out.below ((Below.refl _ _).drew))
 have AD := hide (A.out.below ((Below.refl _ _).drew))
 have KD := hide (KZ.out.bel ((Below.refl _ _).drew))
 clear I A KZ
 refine regionL 16 (fun w' => UsAt w' b S ∧ IsB w' H (anL a).toArray 62) mixed ⟨ID.out, AD.out⟩ (fun hHeld => ?_)
 generalize WA.drew = WD2 at *
 refine pkA (v := ?_) 0 (some 8) rfl rfl ?_ (by assumption) ?_
 rotate_left
 · intro w'
   go_simp
   try with_reducible rfl
 try simp only [Act.put, zqa, zqb, zqc]
 refine pkL (v := ?_) 1 (some 9) rfl rfl ?_ (by assumption) ?_
 rotate_left
 · intro w' hSw
   obtain ⟨q0, q1⟩ := hSw
   have z0 := cl_ak q1
   skip
   go_simp
   try with_reducible rfl
 try simp only [Act.put, zqa, zqb, zqc]
 refine pkA (v := ?_) 2 (some 10) rfl rfl ?_ (by assumption) ?_
 rotate_left
 · intro w'
   go_simp
   try with_reducible rfl
 try simp only [Act.put, zqa, zqb, zqc]
 refine pkA (v := ?_) 3 (some 11) rfl rfl ?_ (by assumption) ?_
 rotate_left
 · intro w'
   go_simp
   try with_reducible rfl
 try simp only [Act.put, zqa, zqb, zqc]
 refine pickN 4 (some 12) rfl rfl (by kernel_rfl) (by kernel_rfl) (by kernel_rfl) (by decide) (fun _ _ _ h => h) (by rfl) (by assumption) ?_
 try simp only [Act.put, zqa, zqb, zqc]
 refine pickN 5 (some 13) rfl rfl (by kernel_rfl) (by kernel_rfl) (by kernel_rfl) (by decide) (fun _ _ _ h => h) (by rfl) (by assumption) ?_
 try simp only [Act.put, zqa, zqb, zqc]
 refine pickN 6 (some 14) rfl rfl (by kernel_rfl) (by kernel_rfl) (by kernel_rfl) (by decide) (fun _ _ _ h => h) (by rfl) (by assumption) ?_
 try simp only [Act.put, zqa, zqb, zqc]
 refine pickN 7 (some 15) rfl rfl (by kernel_rfl) (by kernel_rfl) (by kernel_rfl) (by decide) (fun _ _ _ h => h) (by rfl) (by assumption) ?_
 try simp only [Act.put, zqa, zqb, zqc]
 refine pickN 8 (some 16) rfl rfl (by kernel_rfl) (by kernel_rfl) (by kernel_rfl) (by decide) (fun _ _ _ h => h) (by rfl) (by assumption) ?_
 try simp only [Act.put, zqa, zqb, zqc]
 refine pickN 9 (some 17) rfl rfl (by kernel_rfl) (by kernel_rfl) (by kernel_rfl) (by decide) (fun _ _ _ h => h) (by rfl) (by assumption) ?_
 try simp only [Act.put, zqa, zqb, zqc]
 refine pickN 10 (some 18) rfl rfl (by kernel_rfl) (by kernel_rfl) (by kernel_rfl) (by decide) (fun _ _ _ h => h) (by rfl) (by assumption) ?_
 try simp only [Act.put, zqa, zqb, zqc]
 refine pickN 11 (some 19) rfl rfl (by kernel_rfl) (by kernel_rfl) (by kernel_rfl) (by decide) (fun _ _ _ h => h) (by rfl) (by assumption) ?_
 try simp only [Act.put, zqa, zqb, zqc]
 refine pickN 12 (some 20) rfl rfl (by kernel_rfl) (by kernel_rfl) (by kernel_rfl) (by decide) (fun _ _ _ h => h) (by rfl) (by assumption) ?_
 try simp only [Act.put, zqa, zqb, zqc]
 refine pickN 13 (some 21) rfl rfl (by kernel_rfl) (by kernel_rfl) (by kernel_rfl) (by decide) (fun _ _ _ h => h) (by rfl) (by assumption) ?_
 try simp only [Act.put, zqa, zqb, zqc]
 refine pkA (v := ?_) 14 (some 22) rfl rfl ?_ (by assumption) ?_
 rotate_left
 · intro w'
   go_simp
   try with_reducible rfl
 try simp only [Act.put, zqa, zqb, zqc]
 refine pkA (v := ?_) 15 (some 7) rfl rfl ?_ (by assumption) ?_
 rotate_left
 · intro w'
   go_simp
   try with_reducible rfl
 try simp only [Act.put, zqa, zqb, zqc]
 refine doneL (by kernel_rfl) ?_ _
 clear hHeld
 have I := ID
 have A := AD
 have KZ := KD
 clear ID AD KD
 have LA := hide (ld_ans A.out)
 go_wp2_with (first | (focus ((with_reducible refine wpList_load_w ?_ 62 (.tmp 3) ?_ ?_ LA.out ?_); rotate_left; rfl; rfl; rotate_left; rfl)))
 refine (away_any a _).mono ?_
 rintro e' w3 ⟨rfl, hb⟩
 rw [HA.out]
 replace I := hide (I.out.below hb)
 replace A := hide (A.out.below hb)
 replace KZ := hide (KZ.out.bel hb)
 clear hb LA
 have LA := hide (ld_ans A.out)
 go_wp2_with (first | (focus ((with_reducible refine wpList_load_w ?_ 62 (.tmp 3) ?_ ?_ LA.out ?_); rotate_left; rfl; rfl; rotate_left; rfl)))
 refine (ending_any a _).mono ?_
 rintro e' w4 ⟨rfl, hb⟩
 replace I := hide (I.out.below hb)
 replace A := hide (A.out.below hb)
 replace KZ := hide (KZ.out.bel hb)
 clear hb
 clear LA
 obtain ⟨w5, hs5, I5, k5⟩ := st_at I.out 10
 have HS5 := hide hs5
 obtain ⟨w6, hs6, I6, k6⟩ := st_e I5 (endE a.k)
 have HS6 := hide hs6
 have F6 := hide I6
 have K7 := hide (KZ.out.tr (k5.tr k6))
 clear hs5 I5 k5 hs6 I6 k6
 go_wp2_with (first | (focus ((with_reducible refine wpList_store_w ?_ 213 (.tmp 39) (.const (.int .i64 10)) ?_ ?_ ?_ HS5.out ?_); rotate_left; rfl; rfl; rfl; rotate_left; rfl)) | (focus ((with_reducible refine wpList_store_w ?_ 37 (.tmp 41) (.tmp 37) ?_ ?_ ?_ HS6.out ?_); rotate_left; rfl; rfl; rfl; rotate_left; rfl)))
 try go_wp2
 refine bodyPost_end (results_none rfl _ _ _) rfl ?_
 exact ⟨rfl, F6.out, K7.out⟩

theorem read_any (b : Nat) (S : Us) (a : An) (w : World) (X : UsAt w b S) : Calls Tryz.prog 169 #[.pointer (some ⟨b, 0, none⟩), .agg (anL a).toArray] w fun e' w' => e' = .returned (.tuple #[]) ∧ UsAt w' b (S.hRead a) ∧ Kp [b] w w' := by
 unfold Us.hRead
 by_cases hk : a.k = 1
 · cases hl : klt (a.l.rk, a.l.kn) (S.me.rk, S.me.kn) with
   | true => rw [if_pos ⟨hk, rfl⟩]; exact read_go b S a hk hl w X
   | false => rw [if_neg (fun h => Bool.noConfusion h.2), if_neg (show ¬awB a.k = true by rw [hk]; decide)]; exact read_wait1 b S a hk hl w X
 · rw [if_neg fun h => hk h.1]
   cases ha : awB a.k with
   | true => rw [if_pos rfl]; exact read_end b S a hk ha w X
   | false => rw [if_neg (by decide)]; exact read_wait b S a hk ha w X

/-- Told that the left one is locked, or not. -/
def Us.hLeft (S : Us) (a : An) : Us := if a.k = 1 then (if a.r = S.me then { S with pl := 3 } else { S with pl := 8 }) else { S with pl := 9 }

set_option maxHeartbeats 2000000 in
set_option maxRecDepth 100000 in
theorem left_no (b : Nat) (S : Us) (a : An) (hk : ¬a.k = 1) (w : World) (X : UsAt w b S) : Calls Tryz.prog 170 #[.pointer (some ⟨b, 0, none⟩), .agg (anL a).toArray] w fun e' w' => e' = .returned (.tuple #[]) ∧ UsAt w' b ({ S with pl := 9 }) ∧ Kp [b] w w' := by
 have b1 := (Below.refl w.heap.size w).alloc (Nat.le_refl _) (.cells (anL a).toArray 62)
 have A := hide (IsB.new w (anL a).toArray 62)
 have y0 : (w.alloc (.cells (anL a).toArray 62)).cell? ⟨w.heap.size, 0, none⟩ = some (.int .i64 a.k) := cl_ak A.out
 have I := hide (X.below b1)
 have KZ : Hid (Kp [b] w (w.alloc (.cells (anL a).toArray 62))) := Kp.of_below b1
 clear b1 X
 have e1 : (a.k == 1) = false := by simpa using hk
 have e1' : (a.k != 1) = true := by simpa using hk
 generalize a.k = ak at *
 obtain ⟨w2, hs2, I2, k2⟩ := st_at I.out 9
 have HS2 := hide hs2
 have F6 := hide I2
 have K7 := hide (KZ.out.tr k2)
 clear hs2 I2 k2
 go_enter Tryz.func170, Tryz.ntmps170
 go_wp2_with (first | (focus ((with_reducible refine wpList_store_w ?_ 213 (.tmp 13) (.const (.int .i64 9)) ?_ ?_ ?_ HS2.out ?_); rotate_left; rfl; rfl; rfl; rotate_left; rfl)))
 try go_wp2
 refine bodyPost_end (results_none rfl _ _ _) rfl ?_
 exact ⟨rfl, F6.out, K7.out⟩

set_option maxHeartbeats 2000000 in
set_option maxRecDepth 100000 in
theorem left_me (b : Nat) (S : Us) (a : An) (hk : a.k = 1) (he : a.r = S.me) (w : World) (X : UsAt w b S) : Calls Tryz.prog 170 #[.pointer (some ⟨b, 0, none⟩), .agg (anL a).toArray] w fun e' w' => e' = .returned (.tuple #[]) ∧ UsAt w' b ({ S with pl := 3 }) ∧ Kp [b] w w' := by
 have mixed : Tryz.prog.follows .mixedOrders = true := by kernel_rfl
 have b1 := (Below.refl w.heap.size w).alloc (Nat.le_refl _) (.cells (anL a).toArray 62)
 have A := hide (IsB.new w (anL a).toArray 62)
 have y0 : (w.alloc (.cells (anL a).toArray 62)).cell? ⟨w.heap.size, 0, none⟩ = some (.int .i64 a.k) := cl_ak A.out
 have I := hide (X.below b1)
 have KZ : Hid (Kp [b] w (w.alloc (.cells (anL a).toArray 62))) := Kp.of_below b1
 clear b1 X
 have HE : Hid (decide (a.r = S.me) = true) := decide_eq_true he
 clear he
 rw [hk] at y0
 replace hk := hide hk
 go_enter Tryz.func170, Tryz.ntmps170
 go_wp2_with fail
 generalize (w.alloc (.cells (anL a).toArray 62)) = WA at *
 obtain ⟨H, hH⟩ : ∃ H, w.heap.size = H := ⟨_, rfl⟩
 rw [hH] at A y0 ⊢
 replace hH := hide hH
 clear y0
 have ID := hide (I.out.below ((Below.refl _ _).drew))
 have AD := hide (A.out.below ((Below.refl _ _).drew))
 have KD := hide (KZ.out.bel ((Below.refl _ _).drew))
 clear I A KZ
 refine regionL 9 (fun w' => UsAt w' b S ∧ IsB w' H (anL a).toArray 62) mixed ⟨ID.out, AD.out⟩ (fun hHeld => ?_)
 generalize WA.drew = WD2 at *
 refine pkA (v := ?_) 0 (some 15) rfl rfl ?_ (by assumption) ?_
 rotate_left
 · intro w'
   go_simp
   try with_reducible rfl
 try simp only [Act.put, zqa, zqb, zqc]
 refine pkL (v := .agg a.r.cells) 1 (some 16) rfl rfl ?_ (by assumption) ?_
 · intro w' hSw
   obtain ⟨q0, q1⟩ := hSw
   have z0 := cl_ak q1
   skip
   exact exec_load rfl rfl (ld_ar q1)
 try simp only [Act.put, zqa, zqb, zqc]
 refine pkA (v := ?_) 2 (some 17) rfl rfl ?_ (by assumption) ?_
 rotate_left
 · intro w'
   go_simp
   try with_reducible rfl
 try simp only [Act.put, zqa, zqb, zqc]
 refine pkA (v := ?_) 3 (some 18) rfl rfl ?_ (by assumption) ?_
 rotate_left
 · intro w'
   go_simp
   try with_reducible rfl
 try simp only [Act.put, zqa, zqb, zqc]
 refine pkA (v := ?_) 4 (some 19) rfl rfl ?_ (by assumption) ?_
 rotate_left
 · intro w'
   go_simp
   try with_reducible rfl
 try simp only [Act.put, zqa, zqb, zqc]
 refine pkA (v := ?_) 5 (some 20) rfl rfl ?_ (by assumption) ?_
 rotate_left
 · intro w'
   go_simp
   try with_reducible rfl
 try simp only [Act.put, zqa, zqb, zqc]
 refine pkL (v := .agg S.me.cells) 6 (some 21) rfl rfl ?_ (by assumption) ?_
 · intro w' hSw
   obtain ⟨q0, q1⟩ := hSw
   have z0 := cl_ak q1
   skip
   exact exec_load rfl rfl (ld_me q0)
 try simp only [Act.put, zqa, zqb, zqc]
 refine pkA (v := .bool false) 7 (some 22) rfl rfl ?_ (by assumption) ?_
 · intro w'
   exact exec_bin rguard rfl rfl rfl (by rw [ner_w, HE.out]; rfl)
 try simp only [Act.put, zqa, zqb, zqc]
 refine pkA (v := ?_) 8 (some 14) rfl rfl ?_ (by assumption) ?_
 rotate_left
 · intro w'
   go_simp
   try with_reducible rfl
 try simp only [Act.put, zqa, zqb, zqc]
 refine doneL (by kernel_rfl) ?_ _
 clear hHeld
 have I := ID
 have A := AD
 have KZ := KD
 clear ID AD KD
 obtain ⟨w3, hs3, I3, k3⟩ := st_at I.out 3
 have HS3 := hide hs3
 have F6 := hide I3
 have K7 := hide (KZ.out.tr k3)
 clear hs3 I3 k3
 go_wp2_with (first | (focus ((with_reducible refine wpList_store_w ?_ 213 (.tmp 6) (.const (.int .i64 3)) ?_ ?_ ?_ HS3.out ?_); rotate_left; rfl; rfl; rfl; rotate_left; rfl)))
 try go_wp2
 refine bodyPost_end (results_none rfl _ _ _) rfl ?_
 exact ⟨rfl, F6.out, K7.out⟩

set_option maxHeartbeats 2000000 in
set_option maxRecDepth 100000 in
theorem left_other (b : Nat) (S : Us) (a : An) (hk : a.k = 1) (he : ¬a.r = S.me) (w : World) (X : UsAt w b S) : Calls Tryz.prog 170 #[.pointer (some ⟨b, 0, none⟩), .agg (anL a).toArray] w fun e' w' => e' = .returned (.tuple #[]) ∧ UsAt w' b ({ S with pl := 8 }) ∧ Kp [b] w w' := by
 have mixed : Tryz.prog.follows .mixedOrders = true := by kernel_rfl
 have b1 := (Below.refl w.heap.size w).alloc (Nat.le_refl _) (.cells (anL a).toArray 62)
 have A := hide (IsB.new w (anL a).toArray 62)
 have y0 : (w.alloc (.cells (anL a).toArray 62)).cell? ⟨w.heap.size, 0, none⟩ = some (.int .i64 a.k) := cl_ak A.out
 have I := hide (X.below b1)
 have KZ : Hid (Kp [b] w (w.alloc (.cells (anL a).toArray 62))) := Kp.of_below b1
 clear b1 X
 have HE : Hid (decide (a.r = S.me) = false) := decide_eq_false he
 clear he
 rw [hk] at y0
 replace hk := hide hk
 go_enter Tryz.func170, Tryz.ntmps170
 go_wp2_with fail
 generalize (w.alloc (.cells (anL a).toArray 62)) = WA at *
 obtain ⟨H, hH⟩ : ∃ H, w.heap.size = H := ⟨_, rfl⟩
 rw [hH] at A y0 ⊢
 replace hH := hide hH
 clear y0
 have ID := hide (I.out.below ((Below.refl _ _).drew))
 have AD := hide (A.out.below ((Below.refl _ _).drew))
 have KD := hide (KZ.out.bel ((Below.refl _ _).drew))
 clear I A KZ
 refine regionL 9 (fun w' => UsAt w' b S ∧ IsB w' H (anL a).toArray 62) mixed ⟨ID.out, AD.out⟩ (fun hHeld => ?_)
 generalize WA.drew = WD2 at *
 refine pkA (v := ?_) 0 (some 15) rfl rfl ?_ (by assumption) ?_
 rotate_left
 · intro w'
   go_simp
   try with_reducible rfl
 try simp only [Act.put, zqa, zqb, zqc]
 refine pkL (v := .agg a.r.cells) 1 (some 16) rfl rfl ?_ (by assumption) ?_
 · intro w' hSw
   obtain ⟨q0, q1⟩ := hSw
   have z0 := cl_ak q1
   skip
   exact exec_load rfl rfl (ld_ar q1)
 try simp only [Act.put, zqa, zqb, zqc]
 refine pkA (v := ?_) 2 (some 17) rfl rfl ?_ (by assumption) ?_
 rotate_left
 · intro w'
   go_simp
   try with_reducible rfl
 try simp only [Act.put, zqa, zqb, zqc]
 refine pkA (v := ?_) 3 (some 18) rfl rfl ?_ (by assumption) ?_
 rotate_left
 · intro w'
   go_simp
   try with_reducible rfl
 try simp only [Act.put, zqa, zqb, zqc]
 refine pkA (v := ?_) 4 (some 19) rfl rfl ?_ (by assumption) ?_
 rotate_left
 · intro w'
   go_simp
   try with_reducible rfl
 try simp only [Act.put, zqa, zqb, zqc]
 refine pkA (v := ?_) 5 (some 20) rfl rfl ?_ (by assumption) ?_
 rotate_left
 · intro w'
   go_simp
   try with_reducible rfl
 try simp only [Act.put, zqa, zqb, zqc]
 refine pkL (v := .agg S.me.cells) 6 (some 21) rfl rfl ?_ (by assumption) ?_
 · intro w' hSw
   obtain ⟨q0, q1⟩ := hSw
   have z0 := cl_ak q1
   skip
   exact exec_load rfl rfl (ld_me q0)
 try simp only [Act.put, zqa, zqb, zqc]
 refine pkA (v := .bool true) 7 (some 22) rfl rfl ?_ (by assumption) ?_
 · intro w'
   exact exec_bin rguard rfl rfl rfl (by rw [ner_w, HE.out]; rfl)
 try simp only [Act.put, zqa, zqb, zqc]
 refine pkA (v := ?_) 8 (some 14) rfl rfl ?_ (by assumption) ?_
 rotate_left
 · intro w'
   go_simp
   try with_reducible rfl
 try simp only [Act.put, zqa, zqb, zqc]
 refine doneL (by kernel_rfl) ?_ _
 clear hHeld
 have I := ID
 have A := AD
 have KZ := KD
 clear ID AD KD
 obtain ⟨w3, hs3, I3, k3⟩ := st_at I.out 8
 have HS3 := hide hs3
 have F6 := hide I3
 have K7 := hide (KZ.out.tr k3)
 clear hs3 I3 k3
 go_wp2_with (first | (focus ((with_reducible refine wpList_store_w ?_ 213 (.tmp 25) (.const (.int .i64 8)) ?_ ?_ ?_ HS3.out ?_); rotate_left; rfl; rfl; rfl; rotate_left; rfl)))
 try go_wp2
 refine bodyPost_end (results_none rfl _ _ _) rfl ?_
 exact ⟨rfl, F6.out, K7.out⟩

theorem left_any (b : Nat) (S : Us) (a : An) (w : World) (X : UsAt w b S) : Calls Tryz.prog 170 #[.pointer (some ⟨b, 0, none⟩), .agg (anL a).toArray] w fun e' w' => e' = .returned (.tuple #[]) ∧ UsAt w' b (S.hLeft a) ∧ Kp [b] w w' := by
 unfold Us.hLeft
 by_cases hk : a.k = 1
 · rw [if_pos hk]
   by_cases he : a.r = S.me
   · rw [if_pos he]; exact left_me b S a hk he w X
   · rw [if_neg he]; exact left_other b S a hk he w X
 · rw [if_neg hk]; exact left_no b S a hk w X

/-- Told that it is locked, or not. -/
def Us.hMe (S : Us) (a : An) : Us := if a.k = 1 then (if klt (S.me.rk, S.me.kn) (a.r.rk, a.r.kn) = true then { S with pl := 4, rg := a.r } else { S with pl := 7 }) else if awB a.k = true then { S with bh := 10, e := endE a.k, pl := 8 } else { S with pl := 8 }

set_option maxHeartbeats 2000000 in
set_option maxRecDepth 100000 in
theorem me_go (b : Nat) (S : Us) (a : An) (hk : a.k = 1) (hl : klt (S.me.rk, S.me.kn) (a.r.rk, a.r.kn) = true) (w : World) (X : UsAt w b S) : Calls Tryz.prog 171 #[.pointer (some ⟨b, 0, none⟩), .agg (anL a).toArray] w fun e' w' => e' = .returned (.tuple #[]) ∧ UsAt w' b ({ S with pl := 4, rg := a.r }) ∧ Kp [b] w w' := by
 have mixed : Tryz.prog.follows .mixedOrders = true := by kernel_rfl
 have b1 := (Below.refl w.heap.size w).alloc (Nat.le_refl _) (.cells (anL a).toArray 62)
 have A := hide (IsB.new w (anL a).toArray 62)
 have y0 : (w.alloc (.cells (anL a).toArray 62)).cell? ⟨w.heap.size, 0, none⟩ = some (.int .i64 a.k) := cl_ak A.out
 have I := hide (X.below b1)
 have KZ : Hid (Kp [b] w (w.alloc (.cells (anL a).toArray 62))) := Kp.of_below b1
 clear b1 X
 rw [hk] at y0
 replace hk := hide hk
 have HL := hide hl
 clear hl
 go_enter Tryz.func171, Tryz.ntmps171
 go_wp2_with fail
 generalize (w.alloc (.cells (anL a).toArray 62)) = WA at *
 obtain ⟨H, hH⟩ : ∃ H, w.heap.size = H := ⟨_, rfl⟩
 rw [hH] at A y0 ⊢
 replace hH := hide hH
 clear y0
 have ID := hide (I.out.below ((Below.refl _ _).drew))
 have AD := hide (A.out.below ((Below.refl _ _).drew))
 have KD := hide (KZ.out.bel ((Below.refl _ _).drew))
 clear I A KZ
 refine regionL 16 (fun w' => UsAt w' b S ∧ IsB w' H (anL a).toArray 62) mixed ⟨ID.out, AD.out⟩ (fun hHeld => ?_)
 generalize WA.drew = WD2 at *
 refine pkA (v := ?_) 0 (some 8) rfl rfl ?_ (by assumption) ?_
 rotate_left
 · intro w'
   go_simp
   try with_reducible rfl
 try simp only [Act.put, zqa, zqb, zqc]
 refine pkL (v := ?_) 1 (some 9) rfl rfl ?_ (by assumption) ?_
 rotate_left
 · intro w' hSw
   obtain ⟨q0, q1⟩ := hSw
   have z0 := cl_ak q1
   rw [hk.out] at z0
   go_simp
   try with_reducible rfl
 try simp only [Act.put, zqa, zqb, zqc]
 refine pkA (v := ?_) 2 (some 10) rfl rfl ?_ (by assumption) ?_
 rotate_left
 · intro w'
   go_simp
   try with_reducible rfl
 try simp only [Act.put, zqa, zqb, zqc]
 refine pkA (v := ?_) 3 (some 11) rfl rfl ?_ (by assumption) ?_
 rotate_left
 · intro w'
   go_simp
   try with_reducible rfl
 try simp only [Act.put, zqa, zqb, zqc]
 refine pkA (v := ?_) 4 (some 12) rfl rfl ?_ (by assumption) ?_
 rotate_left
 · intro w'
   go_simp
   try with_reducible rfl
 try simp only [Act.put, zqa, zqb, zqc]
 refine pkA (v := ?_) 5 (some 13) rfl rfl ?_ (by assumption) ?_
 rotate_left
 · intro w'
   go_simp
   try with_reducible rfl
 try simp only [Act.put, zqa, zqb, zqc]
 refine pkA (v := ?_) 6 (some 14) rfl rfl ?_ (by assumption) ?_
 rotate_left
 · intro w'
   go_simp
   try with_reducible rfl
 try simp only [Act.put, zqa, zqb, zqc]
 refine pkA (v := ?_) 7 (some 15) rfl rfl ?_ (by assumption) ?_
 rotate_left
 · intro w'
   go_simp
   try with_reducible rfl
 try simp only [Act.put, zqa, zqb, zqc]
 refine pkA (v := ?_) 8 (some 16) rfl rfl ?_ (by assumption) ?_
 rotate_left
 · intro w'
   go_simp
   try with_reducible rfl
 try simp only [Act.put, zqa, zqb, zqc]
 refine pkL (v := .agg #[.int .i64 S.me.rk, .int .u64 S.me.kn]) 9 (some 17) rfl rfl ?_ (by assumption) ?_
 · intro w' hSw
   obtain ⟨q0, q1⟩ := hSw
   have z0 := cl_ak q1
   rw [hk.out] at z0
   exact exec_load rfl rfl (ld_mek q0)
 try simp only [Act.put, zqa, zqb, zqc]
 refine pkA (v := ?_) 10 (some 18) rfl rfl ?_ (by assumption) ?_
 rotate_left
 · intro w'
   go_simp
   try with_reducible rfl
 try simp only [Act.put, zqa, zqb, zqc]
 refine pkA (v := ?_) 11 (some 19) rfl rfl ?_ (by assumption) ?_
 rotate_left
 · intro w'
   go_simp
   try with_reducible rfl
 try simp only [Act.put, zqa, zqb, zqc]
 refine pkL (v := .agg #[.int .i64 a.r.rk, .int .u64 a.r.kn]) 12 (some 20) rfl rfl ?_ (by assumption) ?_
 · intro w' hSw
   obtain ⟨q0, q1⟩ := hSw
   have z0 := cl_ak q1
   rw [hk.out] at z0
   exact exec_load rfl rfl (ld_ark q1)
 try simp only [Act.put, zqa, zqb, zqc]
 refine oneL (i := 13) (by kernel_rfl) rfl (fun K hK => ?_)
 go_simp
 refine (kLess_any S.me.rk S.me.kn a.r.rk a.r.kn WD2).mono ?_
 rintro e' w2 ⟨rfl, hg⟩
 rw [HL.out]
 have I := hide (ID.out.below hg.below)
 have A := hide (AD.out.below hg.below)
 have KZ := hide (KD.out.bel hg.below)
 clear hg
 refine hK.out _ _ ?_ ?_
 · exact ⟨I.out, A.out⟩
 clear hK K
 try simp only [Act.put, zqa, zqb, zqc]
 clear hHeld
 have hHeld : (fun w' => UsAt w' b S ∧ IsB w' H (anL a).toArray 62) w2 := ⟨I.out, A.out⟩
 refine pkA (v := ?_) 14 (some 22) rfl rfl ?_ (by assumption) ?_
 rotate_left
 · intro w'
   go_simp
   try with_reducible rfl
 try simp only [Act.put, zqa, zqb, zqc]
 refine pkA (v := ?_) 15 (some 7) rfl rfl ?_ (by assumption) ?_
 rotate_left
 · intro w'
   go_simp
   try with_reducible rfl
 try simp only [Act.put, zqa, zqb, zqc]
 refine doneL (by kernel_rfl) ?_ _
 clear hHeld
 clear ID AD KD
 have ID := hide (I.out.below ((Below.refl _ _).drew))
 have AD := hide (A.out.below ((Below.refl _ _).drew))
 have KD := hide (KZ.out.bel ((Below.refl _ _).drew))
 obtain ⟨w3, hs3, I3, k3⟩ := st_at ID.out 4
 have HS3 := hide hs3
 obtain ⟨w4, hs4, I4, k4⟩ := st_right I3 a.r
 have HS4 := hide hs4
 have hne : H ≠ b := fun e => IsB.ne_t AD.out ID.out (by decide) e
 have A2 := hide (AD.out.kp k3 (by simpa using hne))
 have F6 := hide I4
 have K7 := hide (KD.out.tr (k3.tr k4))
 clear hs3 I3 k3 hs4 I4 k4
 clear I A KZ ID KD hne
 go_wp2_with fail
 refine regionL 9 (fun w' => IsB w' H (anL a).toArray 62) mixed AD.out (fun hHeld => ?_)
 generalize w2.drew = WD2 at *
 refine pkA (v := ?_) 0 (some 23) rfl rfl ?_ (by assumption) ?_
 rotate_left
 · intro w'
   go_simp
   try with_reducible rfl
 try simp only [Act.put, zqa, zqb, zqc]
 refine pkA (v := ?_) 1 (some 24) rfl rfl ?_ (by assumption) ?_
 rotate_left
 · intro w'
   go_simp
   try with_reducible rfl
 try simp only [Act.put, zqa, zqb, zqc]
 refine pkA (v := ?_) 2 (some 25) rfl rfl ?_ (by assumption) ?_
 rotate_left
 · intro w'
   go_simp
   try with_reducible rfl
 try simp only [Act.put, zqa, zqb, zqc]
 refine pkL (v := .agg a.r.cells) 3 (some 26) rfl rfl ?_ (by assumption) ?_
 · intro w' hSw
   have q1 := hSw
   exact exec_load rfl rfl (ld_ar q1)
 try simp only [Act.put, zqa, zqb, zqc]
 refine pkA (v := ?_) 4 (some 27) rfl rfl ?_ (by assumption) ?_
 rotate_left
 · intro w'
   go_simp
   try with_reducible rfl
 try simp only [Act.put, zqa, zqb, zqc]
 refine pkA (v := ?_) 5 (some 28) rfl rfl ?_ (by assumption) ?_
 rotate_left
 · intro w'
   go_simp
   try with_reducible rfl
 try simp only [Act.put, zqa, zqb, zqc]
 refine oneL (i := 6) (by kernel_rfl) rfl (fun K hK => ?_)
 refine step_store_w rfl 213 (.tmp 28) (.const (.int .i64 4)) rfl rfl rfl HS3.out ?_
 refine hK.out _ _ ?_ ?_
 · exact A2.out
 clear hK K
 try simp only [Act.put, List.setIfInBounds_toArray]
 clear hHeld
 have hHeld : (fun w' => IsB w' H (anL a).toArray 62) w3 := A2.out
 refine pkA (v := ?_) 7 (some 29) rfl rfl ?_ (by assumption) ?_
 rotate_left
 · intro w'
   go_simp
   try with_reducible rfl
 try simp only [Act.put]
 refine pkA (v := ?_) 8 (some 30) rfl rfl ?_ (by assumption) ?_
 rotate_left
 · intro w'
   go_simp
   try with_reducible rfl
 try simp only [Act.put]
 refine lateL (i := 9) (by kernel_rfl) rfl (by decide) (by kernel_rfl) (fun K hK => ?_)
 refine step_store_w rfl 29 (.tmp 30) (.tmp 26) rfl rfl rfl HS4.out ?_
 refine hK.out _ _ ?_
 clear hK K
 try simp only [Act.put]
 refine doneL (by kernel_rfl) ?_ _
 clear hHeld
 try go_wp2
 refine bodyPost_end (results_none rfl _ _ _) rfl ?_
 exact ⟨rfl, F6.out, K7.out⟩

set_option maxHeartbeats 2000000 in
set_option maxRecDepth 100000 in
theorem me_back (b : Nat) (S : Us) (a : An) (hk : a.k = 1) (hl : klt (S.me.rk, S.me.kn) (a.r.rk, a.r.kn) = false) (w : World) (X : UsAt w b S) : Calls Tryz.prog 171 #[.pointer (some ⟨b, 0, none⟩), .agg (anL a).toArray] w fun e' w' => e' = .returned (.tuple #[]) ∧ UsAt w' b ({ S with pl := 7 }) ∧ Kp [b] w w' := by
 have mixed : Tryz.prog.follows .mixedOrders = true := by kernel_rfl
 have b1 := (Below.refl w.heap.size w).alloc (Nat.le_refl _) (.cells (anL a).toArray 62)
 have A := hide (IsB.new w (anL a).toArray 62)
 have y0 : (w.alloc (.cells (anL a).toArray 62)).cell? ⟨w.heap.size, 0, none⟩ = some (.int .i64 a.k) := cl_ak A.out
 have I := hide (X.below b1)
 have KZ : Hid (Kp [b] w (w.alloc (.cells (anL a).toArray 62))) := Kp.of_below b1
 clear b1 X
 rw [hk] at y0
 replace hk := hide hk
 have HL := hide hl
 clear hl
 go_enter Tryz.func171, Tryz.ntmps171
 go_wp2_with fail
 generalize (w.alloc (.cells (anL a).toArray 62)) = WA at *
 obtain ⟨H, hH⟩ : ∃ H, w.heap.size = H := ⟨_, rfl⟩
 rw [hH] at A y0 ⊢
 replace hH := hide hH
 clear y0
 have ID := hide (I.out.below ((Below.refl _ _).drew))
 have AD := hide (A.out.below ((Below.refl _ _).drew))
 have KD := hide (KZ.out.bel ((Below.refl _ _).drew))
 clear I A KZ
 refine regionL 16 (fun w' => UsAt w' b S ∧ IsB w' H (anL a).toArray 62) mixed ⟨ID.out, AD.out⟩ (fun hHeld => ?_)
 generalize WA.drew = WD2 at *
 refine pkA (v := ?_) 0 (some 8) rfl rfl ?_ (by assumption) ?_
 rotate_left
 · intro w'
   go_simp
   try with_reducible rfl
 try simp only [Act.put, zqa, zqb, zqc]
 refine pkL (v := ?_) 1 (some 9) rfl rfl ?_ (by assumption) ?_
 rotate_left
 · intro w' hSw
   obtain ⟨q0, q1⟩ := hSw
   have z0 := cl_ak q1
   rw [hk.out] at z0
   go_simp
   try with_reducible rfl
 try simp only [Act.put, zqa, zqb, zqc]
 refine pkA (v := ?_) 2 (some 10) rfl rfl ?_ (by assumption) ?_
 rotate_left
 · intro w'
   go_simp
   try with_reducible rfl
 try simp only [Act.put, zqa, zqb, zqc]
 refine pkA (v := ?_) 3 (some 11) rfl rfl ?_ (by assumption) ?_
 rotate_left
 · intro w'
   go_simp
   try with_reducible rfl
 try simp only [Act.put, zqa, zqb, zqc]
 refine pkA (v := ?_) 4 (some 12) rfl rfl ?_ (by assumption) ?_
 rotate_left
 · intro w'
   go_simp
   try with_reducible rfl
 try simp only [Act.put, zqa, zqb, zqc]
 refine pkA (v := ?_) 5 (some 13) rfl rfl ?_ (by assumption) ?_
 rotate_left
 · intro w'
   go_simp
   try with_reducible rfl
 try simp only [Act.put, zqa, zqb, zqc]
 refine pkA (v := ?_) 6 (some 14) rfl rfl ?_ (by assumption) ?_
 rotate_left
 · intro w'
   go_simp
   try with_reducible rfl
 try simp only [Act.put, zqa, zqb, zqc]
 refine pkA (v := ?_) 7 (some 15) rfl rfl ?_ (by assumption) ?_
 rotate_left
 · intro w'
   go_simp
   try with_reducible rfl
 try simp only [Act.put, zqa, zqb, zqc]
 refine pkA (v := ?_) 8 (some 16) rfl rfl ?_ (by assumption) ?_
 rotate_left
 · intro w'
   go_simp
   try with_reducible rfl
 try simp only [Act.put, zqa, zqb, zqc]
 refine pkL (v := .agg #[.int .i64 S.me.rk, .int .u64 S.me.kn]) 9 (some 17) rfl rfl ?_ (by assumption) ?_
 · intro w' hSw
   obtain ⟨q0, q1⟩ := hSw
   have z0 := cl_ak q1
   rw [hk.out] at z0
   exact exec_load rfl rfl (ld_mek q0)
 try simp only [Act.put, zqa, zqb, zqc]
 refine pkA (v := ?_) 10 (some 18) rfl rfl ?_ (by assumption) ?_
 rotate_left
 · intro w'
   go_simp
   try with_reducible rfl
 try simp only [Act.put, zqa, zqb, zqc]
 refine pkA (v := ?_) 11 (some 19) rfl rfl ?_ (by assumption) ?_
 rotate_left
 · intro w'
   go_simp
   try with_reducible rfl
 try simp only [Act.put, zqa, zqb, zqc]
 refine pkL (v := .agg #[.int .i64 a.r.rk, .int .u64 a.r.kn]) 12 (some 20) rfl rfl ?_ (by assumption) ?_
 · intro w' hSw
   obtain ⟨q0, q1⟩ := hSw
   have z0 := cl_ak q1
   rw [hk.out] at z0
   exact exec_load rfl rfl (ld_ark q1)
 try simp only [Act.put, zqa, zqb, zqc]
 refine oneL (i := 13) (by kernel_rfl) rfl (fun K hK => ?_)
 go_simp
 refine (kLess_any S.me.rk S.me.kn a.r.rk a.r.kn WD2).mono ?_
 rintro e' w2 ⟨rfl, hg⟩
 rw [HL.out]
 have I := hide (ID.out.below hg.below)
 have A := hide (AD.out.below hg.below)
 have KZ := hide (KD.out.bel hg.below)
 clear hg
 refine hK.out _ _ ?_ ?_
 · exact ⟨I.out, A.out⟩
 clear hK K
 try simp only [Act.put, zqa, zqb, zqc]
 clear hHeld
 have hHeld : (fun w' => UsAt w' b S ∧ IsB w' H (anL a).toArray 62) w2 := ⟨I.out, A.out⟩
 refine pkA (v := ?_) 14 (some 22) rfl rfl ?_ (by assumption) ?_
 rotate_left
 · intro w'
   go_simp
   try with_reducible rfl
 try simp only [Act.put, zqa, zqb, zqc]
 refine pkA (v := ?_) 15 (some 7) rfl rfl ?_ (by assumption) ?_
 rotate_left
 · intro w'
   go_simp
   try with_reducible rfl
 try simp only [Act.put, zqa, zqb, zqc]
 refine doneL (by kernel_rfl) ?_ _
 clear hHeld
 clear ID AD KD
 have y0 := cl_ak A.out
 rw [hk.out] at y0
 obtain ⟨w3, hs3, I3, k3⟩ := st_at I.out 7
 have HS3 := hide hs3
 have F6 := hide I3
 have K7 := hide (KZ.out.tr k3)
 clear hs3 I3 k3
 go_wp2_with (first | (focus ((with_reducible refine wpList_store_w ?_ 213 (.tmp 37) (.const (.int .i64 7)) ?_ ?_ ?_ HS3.out ?_); rotate_left; rfl; rfl; rfl; rotate_left; rfl)))
 try go_wp2
 refine bodyPost_end (results_none rfl _ _ _) rfl ?_
 exact ⟨rfl, F6.out, K7.out⟩

set_option maxHeartbeats 2000000 in
set_option maxRecDepth 100000 in
theorem me_no (b : Nat) (S : Us) (a : An) (hk : ¬a.k = 1) (ha : awB a.k = false) (w : World) (X : UsAt w b S) : Calls Tryz.prog 171 #[.pointer (some ⟨b, 0, none⟩), .agg (anL a).toArray] w fun e' w' => e' = .returned (.tuple #[]) ∧ UsAt w' b ({ S with pl := 8 }) ∧ Kp [b] w w' := by
 have mixed : Tryz.prog.follows .mixedOrders = true := by kernel_rfl
 have b1 := (Below.refl w.heap.size w).alloc (Nat.le_refl _) (.cells (anL a).toArray 62)
 have A := hide (IsB.new w (anL a).toArray 62)
 have y0 : (w.alloc (.cells (anL a).toArray 62)).cell? ⟨w.heap.size, 0, none⟩ = some (.int .i64 a.k) := cl_ak A.out
 have I := hide (X.below b1)
 have KZ : Hid (Kp [b] w (w.alloc (.cells (anL a).toArray 62))) := Kp.of_below b1
 clear b1 X
 have HA := hide ha
 clear ha
 have e1 : (a.k == 1) = false := by simpa using hk
 have e1' : (a.k != 1) = true := by simpa using hk
 go_enter Tryz.func171, Tryz.ntmps171
 go_wp2_with fail
 generalize (w.alloc (.cells (anL a).toArray 62)) = WA at *
 obtain ⟨H, hH⟩ : ∃ H, w.heap.size = H := ⟨_, rfl⟩
 rw [hH] at A y0 ⊢
 replace hH := hide hH
 clear y0
 have ID := hide (I.out.below ((Below.refl _ _).drew))
 have AD := hide (A.out.below ((Below.refl _ _).drew))
 have KD := hide (KZ.out.bel ((Below.refl _ _).drew))
 clear I A KZ
 refine regionL 16 (fun w' => UsAt w' b S ∧ IsB w' H (anL a).toArray 62) mixed ⟨ID.out, AD.out⟩ (fun hHeld => ?_)
 generalize WA.drew = WD2 at *
 refine pkA (v := ?_) 0 (some 8) rfl rfl ?_ (by assumption) ?_
 rotate_left
 · intro w'
   go_simp
   try with_reducible rfl
 try simp only [Act.put, zqa, zqb, zqc]
 refine pkL (v := ?_) 1 (some 9) rfl rfl ?_ (by assumption) ?_
 rotate_left
 · intro w' hSw
   obtain ⟨q0, q1⟩ := hSw
   have z0 := cl_ak q1
   skip
   go_simp
   try with_reducible rfl
 try simp only [Act.put, zqa, zqb, zqc]
 refine pkA (v := ?_) 2 (some 10) rfl rfl ?_ (by assumption) ?_
 rotate_left
 · intro w'
   go_simp
   try with_reducible rfl
 try simp only [Act.put, zqa, zqb, zqc]
 refine pkA (v := ?_) 3 (some 11) rfl rfl ?_ (by assumption) ?_
 rotate_left
 · intro w'
   go_simp
   try with_reducible rfl
 try simp only [Act.put, zqa, zqb, zqc]
 refine pickN 4 (some 12) rfl rfl (by kernel_rfl) (by kernel_rfl) (by kernel_rfl) (by decide) (fun _ _ _ h => h) (by rfl) (by assumption) ?_
 try simp only [Act.put, zqa, zqb, zqc]
 refine pickN 5 (some 13) rfl rfl (by kernel_rfl) (by kernel_rfl) (by kernel_rfl) (by decide) (fun _ _ _ h => h) (by rfl) (by assumption) ?_
 try simp only [Act.put, zqa, zqb, zqc]
 refine pickN 6 (some 14) rfl rfl (by kernel_rfl) (by kernel_rfl) (by kernel_rfl) (by decide) (fun _ _ _ h => h) (by rfl) (by assumption) ?_
 try simp only [Act.put, zqa, zqb, zqc]
 refine pickN 7 (some 15) rfl rfl (by kernel_rfl) (by kernel_rfl) (by kernel_rfl) (by decide) (fun _ _ _ h => h) (by rfl) (by assumption) ?_
 try simp only [Act.put, zqa, zqb, zqc]
 refine pickN 8 (some 16) rfl rfl (by kernel_rfl) (by kernel_rfl) (by kernel_rfl) (by decide) (fun _ _ _ h => h) (by rfl) (by assumption) ?_
 try simp only [Act.put, zqa, zqb, zqc]
 refine pickN 9 (some 17) rfl rfl (by kernel_rfl) (by kernel_rfl) (by kernel_rfl) (by decide) (fun _ _ _ h => h) (by rfl) (by assumption) ?_
 try simp only [Act.put, zqa, zqb, zqc]
 refine pickN 10 (some 18) rfl rfl (by kernel_rfl) (by kernel_rfl) (by kernel_rfl) (by decide) (fun _ _ _ h => h) (by rfl) (by assumption) ?_
 try simp only [Act.put, zqa, zqb, zqc]
 refine pickN 11 (some 19) rfl rfl (by kernel_rfl) (by kernel_rfl) (by kernel_rfl) (by decide) (fun _ _ _ h => h) (by rfl) (by assumption) ?_
 try simp only [Act.put, zqa, zqb, zqc]
 refine pickN 12 (some 20) rfl rfl (by kernel_rfl) (by kernel_rfl) (by kernel_rfl) (by decide) (fun _ _ _ h => h) (by rfl) (by assumption) ?_
 try simp only [Act.put, zqa, zqb, zqc]
 refine pickN 13 (some 21) rfl rfl (by kernel_rfl) (by kernel_rfl) (by kernel_rfl) (by decide) (fun _ _ _ h => h) (by rfl) (by assumption) ?_
 try simp only [Act.put, zqa, zqb, zqc]
 refine pkA (v := ?_) 14 (some 22) rfl rfl ?_ (by assumption) ?_
 rotate_left
 · intro w'
   go_simp
   try with_reducible rfl
 try simp only [Act.put, zqa, zqb, zqc]
 refine pkA (v := ?_) 15 (some 7) rfl rfl ?_ (by assumption) ?_
 rotate_left
 · intro w'
   go_simp
   try with_reducible rfl
 try simp only [Act.put, zqa, zqb, zqc]
 refine doneL (by kernel_rfl) ?_ _
 clear hHeld
 have I := ID
 have A := AD
 have KZ := KD
 clear ID AD KD
 have y0 := cl_ak A.out
 have LA := hide (ld_ans A.out)
 go_wp2_with (first | (focus ((with_reducible refine wpList_load_w ?_ 62 (.tmp 3) ?_ ?_ LA.out ?_); rotate_left; rfl; rfl; rotate_left; rfl)))
 refine (away_any a _).mono ?_
 rintro e' w3 ⟨rfl, hb⟩
 rw [HA.out]
 replace I := hide (I.out.below hb)
 replace A := hide (A.out.below hb)
 replace KZ := hide (KZ.out.bel hb)
 clear hb LA
 obtain ⟨w4, hs4, I4, k4⟩ := st_at I.out 8
 have HS4 := hide hs4
 have F6 := hide I4
 have K7 := hide (KZ.out.tr k4)
 clear hs4 I4 k4
 go_wp2_with (first | (focus ((with_reducible refine wpList_store_w ?_ 213 (.tmp 6) (.const (.int .i64 8)) ?_ ?_ ?_ HS4.out ?_); rotate_left; rfl; rfl; rfl; rotate_left; rfl)))
 try go_wp2
 refine bodyPost_end (results_none rfl _ _ _) rfl ?_
 exact ⟨rfl, F6.out, K7.out⟩

set_option maxHeartbeats 2000000 in
set_option maxRecDepth 100000 in
theorem me_end (b : Nat) (S : Us) (a : An) (hk : ¬a.k = 1) (ha : awB a.k = true) (w : World) (X : UsAt w b S) : Calls Tryz.prog 171 #[.pointer (some ⟨b, 0, none⟩), .agg (anL a).toArray] w fun e' w' => e' = .returned (.tuple #[]) ∧ UsAt w' b ({ S with bh := 10, e := endE a.k, pl := 8 }) ∧ Kp [b] w w' := by
 have mixed : Tryz.prog.follows .mixedOrders = true := by kernel_rfl
 have b1 := (Below.refl w.heap.size w).alloc (Nat.le_refl _) (.cells (anL a).toArray 62)
 have A := hide (IsB.new w (anL a).toArray 62)
 have y0 : (w.alloc (.cells (anL a).toArray 62)).cell? ⟨w.heap.size, 0, none⟩ = some (.int .i64 a.k) := cl_ak A.out
 have I := hide (X.below b1)
 have KZ : Hid (Kp [b] w (w.alloc (.cells (anL a).toArray 62))) := Kp.of_below b1
 clear b1 X
 have HA := hide ha
 clear ha
 have e1 : (a.k == 1) = false := by simpa using hk
 have e1' : (a.k != 1) = true := by simpa using hk
 go_enter Tryz.func171, Tryz.ntmps171
 go_wp2_with fail
 generalize (w.alloc (.cells (anL a).toArray 62)) = WA at *
 obtain ⟨H, hH⟩ : ∃ H, w.heap.size = H := ⟨_, rfl⟩
 rw [hH] at A y0 ⊢
 replace hH := hide hH
 clear y0
 have ID := hide (I.out.below ((Below.refl _ _).drew))
 have AD := hide (A.out.below ((Below.refl _ _).drew))
 have KD := hide (KZ.out.bel ((Below.refl _ _).drew))
 clear I A KZ
 refine regionL 16 (fun w' => UsAt w' b S ∧ IsB w' H (anL a).toArray 62) mixed ⟨ID.out, AD.out⟩ (fun hHeld => ?_)
 generalize WA.drew = WD2 at *
 refine pkA (v := ?_) 0 (some 8) rfl rfl ?_ (by assumption) ?_
 rotate_left
 · intro w'
   go_simp
   try with_reducible rfl
 try simp only [Act.put, zqa, zqb, zqc]
 refine pkL (v := ?_) 1 (some 9) rfl rfl ?_ (by assumption) ?_
 rotate_left
 · intro w' hSw
   obtain ⟨q0, q1⟩ := hSw
   have z0 := cl_ak q1
   skip
   go_simp
   try with_reducible rfl
 try simp only [Act.put, zqa, zqb, zqc]
 refine pkA (v := ?_) 2 (some 10) rfl rfl ?_ (by assumption) ?_
 rotate_left
 · intro w'
   go_simp
   try with_reducible rfl
 try simp only [Act.put, zqa, zqb, zqc]
 refine pkA (v := ?_) 3 (some 11) rfl rfl ?_ (by assumption) ?_
 rotate_left
 · intro w'
   go_simp
   try with_reducible rfl
 try simp only [Act.put, zqa, zqb, zqc]
 refine pickN 4 (some 12) rfl rfl (by kernel_rfl) (by kernel_rfl) (by kernel_rfl) (by decide) (fun _ _ _ h => h) (by rfl) (by assumption) ?_
 try simp only [Act.put, zqa, zqb, zqc]
 refine pickN 5 (some 13) rfl rfl (by kernel_rfl) (by kernel_rfl) (by kernel_rfl) (by decide) (fun _ _ _ h => h) (by rfl) (by assumption) ?_
 try simp only [Act.put, zqa, zqb, zqc]
 refine pickN 6 (some 14) rfl rfl (by kernel_rfl) (by kernel_rfl) (by kernel_rfl) (by decide) (fun _ _ _ h => h) (by rfl) (by assumption) ?_
 try simp only [Act.put, zqa, zqb, zqc]
 refine pickN 7 (some 15) rfl rfl (by kernel_rfl) (by kernel_rfl) (by kernel_rfl) (by decide) (fun _ _ _ h => h) (by rfl) (by assumption) ?_
 try simp only [Act.put, zqa, zqb, zqc]
 refine pickN 8 (some 16) rfl rfl (by kernel_rfl) (by kernel_rfl) (by kernel_rfl) (by decide) (fun _ _ _ h => h) (by rfl) (by assumption) ?_
 try simp only [Act.put, zqa, zqb, zqc]
 refine pickN 9 (some 17) rfl rfl (by kernel_rfl) (by kernel_rfl) (by kernel_rfl) (by decide) (fun _ _ _ h => h) (by rfl) (by assumption) ?_
 try simp only [Act.put, zqa, zqb, zqc]
 refine pickN 10 (some 18) rfl rfl (by kernel_rfl) (by kernel_rfl) (by kernel_rfl) (by decide) (fun _ _ _ h => h) (by rfl) (by assumption) ?_
 try simp only [Act.put, zqa, zqb, zqc]
 refine pickN 11 (some 19) rfl rfl (by kernel_rfl) (by kernel_rfl) (by kernel_rfl) (by decide) (fun _ _ _ h => h) (by rfl) (by assumption) ?_
 try simp only [Act.put, zqa, zqb, zqc]
 refine pickN 12 (some 20) rfl rfl (by kernel_rfl) (by kernel_rfl) (by kernel_rfl) (by decide) (fun _ _ _ h => h) (by rfl) (by assumption) ?_
 try simp only [Act.put, zqa, zqb, zqc]
 refine pickN 13 (some 21) rfl rfl (by kernel_rfl) (by kernel_rfl) (by kernel_rfl) (by decide) (fun _ _ _ h => h) (by rfl) (by assumption) ?_
 try simp only [Act.put, zqa, zqb, zqc]
 refine pkA (v := ?_) 14 (some 22) rfl rfl ?_ (by assumption) ?_
 rotate_left
 · intro w'
   go_simp
   try with_reducible rfl
 try simp only [Act.put, zqa, zqb, zqc]
 refine pkA (v := ?_) 15 (some 7) rfl rfl ?_ (by assumption) ?_
 rotate_left
 · intro w'
   go_simp
   try with_reducible rfl
 try simp only [Act.put, zqa, zqb, zqc]
 refine doneL (by kernel_rfl) ?_ _
 clear hHeld
 have I := ID
 have A := AD
 have KZ := KD
 clear ID AD KD
 have y0 := cl_ak A.out
 have LA := hide (ld_ans A.out)
 go_wp2_with (first | (focus ((with_reducible refine wpList_load_w ?_ 62 (.tmp 3) ?_ ?_ LA.out ?_); rotate_left; rfl; rfl; rotate_left; rfl)))
 refine (away_any a _).mono ?_
 rintro e' w3 ⟨rfl, hb⟩
 rw [HA.out]
 replace I := hide (I.out.below hb)
 replace A := hide (A.out.below hb)
 replace KZ := hide (KZ.out.bel hb)
 clear hb LA
 have LA := hide (ld_ans A.out)
 go_wp2_with (first | (focus ((with_reducible refine wpList_load_w ?_ 62 (.tmp 3) ?_ ?_ LA.out ?_); rotate_left; rfl; rfl; rotate_left; rfl)))
 refine (endB_any b S a _ I.out).mono ?_
 rintro e' w4 ⟨rfl, I4, K4⟩
 replace KZ := hide (KZ.out.tr K4)
 have I := hide I4
 clear I4 K4 LA
 obtain ⟨w5, hs5, I5, k5⟩ := st_at I.out 8
 have HS5 := hide hs5
 have F6 := hide I5
 have K7 := hide (KZ.out.tr k5)
 clear hs5 I5 k5
 go_wp2_with (first | (focus ((with_reducible refine wpList_store_w ?_ 213 (.tmp 46) (.const (.int .i64 8)) ?_ ?_ ?_ HS5.out ?_); rotate_left; rfl; rfl; rfl; rotate_left; rfl)))
 try go_wp2
 refine bodyPost_end (results_none rfl _ _ _) rfl ?_
 exact ⟨rfl, F6.out, K7.out⟩

theorem me_any (b : Nat) (S : Us) (a : An) (w : World) (X : UsAt w b S) : Calls Tryz.prog 171 #[.pointer (some ⟨b, 0, none⟩), .agg (anL a).toArray] w fun e' w' => e' = .returned (.tuple #[]) ∧ UsAt w' b (S.hMe a) ∧ Kp [b] w w' := by
 unfold Us.hMe
 by_cases hk : a.k = 1
 · rw [if_pos hk]
   cases hl : klt (S.me.rk, S.me.kn) (a.r.rk, a.r.kn) with
   | true => rw [if_pos rfl]; exact me_go b S a hk hl w X
   | false => rw [if_neg (by decide)]; exact me_back b S a hk hl w X
 · rw [if_neg hk]
   cases ha : awB a.k with
   | true => rw [if_pos rfl]; exact me_end b S a hk ha w X
   | false => rw [if_neg (by decide)]; exact me_no b S a hk ha w X

/-- Told whether the right one stands to the left one's right. -/
def Us.hRt (S : Us) (a : An) : Us := if a.k = 1 ∨ a.k = 3 ∧ a.r = S.rg then { S with pl := 5 } else { S with pl := 7 }

set_option maxHeartbeats 2000000 in
set_option maxRecDepth 100000 in
theorem right_ok (b : Nat) (S : Us) (a : An) (hk : a.k = 1) (w : World) (X : UsAt w b S) : Calls Tryz.prog 172 #[.pointer (some ⟨b, 0, none⟩), .agg (anL a).toArray] w fun e' w' => e' = .returned (.tuple #[]) ∧ UsAt w' b ({ S with pl := 5 }) ∧ Kp [b] w w' := by
 have mixed : Tryz.prog.follows .mixedOrders = true := by kernel_rfl
 have b1 := (Below.refl w.heap.size w).alloc (Nat.le_refl _) (.cells (anL a).toArray 62)
 have A := hide (IsB.new w (anL a).toArray 62)
 have y0 : (w.alloc (.cells (anL a).toArray 62)).cell? ⟨w.heap.size, 0, none⟩ = some (.int .i64 a.k) := cl_ak A.out
 have I := hide (X.below b1)
 have KZ : Hid (Kp [b] w (w.alloc (.cells (anL a).toArray 62))) := Kp.of_below b1
 clear b1 X
 rw [hk] at y0
 replace hk := hide hk
 go_enter Tryz.func172, Tryz.ntmps172
 go_wp2_with fail
 generalize (w.alloc (.cells (anL a).toArray 62)) = WA at *
 obtain ⟨H, hH⟩ : ∃ H, w.heap.size = H := ⟨_, rfl⟩
 rw [hH] at A y0 ⊢
 replace hH := hide hH
 clear y0
 have ID := hide (I.out.below ((Below.refl _ _).drew))
 have AD := hide (A.out.below ((Below.refl _ _).drew))
 have KD := hide (KZ.out.bel ((Below.refl _ _).drew))
 clear I A KZ
 refine regionL 17 (fun w' => UsAt w' b S ∧ IsB w' H (anL a).toArray 62) mixed ⟨ID.out, AD.out⟩ (fun hHeld => ?_)
 generalize WA.drew = WD2 at *
 refine pkA (v := ?_) 0 (some 4) rfl rfl ?_ (by assumption) ?_
 rotate_left
 · intro w'
   go_simp
   try with_reducible rfl
 try simp only [Act.put, zqa, zqb, zqc]
 refine pkL (v := ?_) 1 (some 5) rfl rfl ?_ (by assumption) ?_
 rotate_left
 · intro w' hSw
   obtain ⟨q0, q1⟩ := hSw
   have z0 := cl_ak q1
   rw [hk.out] at z0
   go_simp
   try with_reducible rfl
 try simp only [Act.put, zqa, zqb, zqc]
 refine pkA (v := ?_) 2 (some 6) rfl rfl ?_ (by assumption) ?_
 rotate_left
 · intro w'
   go_simp
   try with_reducible rfl
 try simp only [Act.put, zqa, zqb, zqc]
 refine pkA (v := ?_) 3 (some 7) rfl rfl ?_ (by assumption) ?_
 rotate_left
 · intro w'
   go_simp
   try with_reducible rfl
 try simp only [Act.put, zqa, zqb, zqc]
 refine pickN 4 (some 8) rfl rfl (by kernel_rfl) (by kernel_rfl) (by kernel_rfl) (by decide) (fun _ _ _ h => h) (by rfl) (by assumption) ?_
 try simp only [Act.put, zqa, zqb, zqc]
 refine pickN 5 (some 9) rfl rfl (by kernel_rfl) (by kernel_rfl) (by kernel_rfl) (by decide) (fun _ _ _ h => h) (by rfl) (by assumption) ?_
 try simp only [Act.put, zqa, zqb, zqc]
 refine pickN 6 (some 10) rfl rfl (by kernel_rfl) (by kernel_rfl) (by kernel_rfl) (by decide) (fun _ _ _ h => h) (by rfl) (by assumption) ?_
 try simp only [Act.put, zqa, zqb, zqc]
 refine pickN 7 (some 11) rfl rfl (by kernel_rfl) (by kernel_rfl) (by kernel_rfl) (by decide) (fun _ _ _ h => h) (by rfl) (by assumption) ?_
 try simp only [Act.put, zqa, zqb, zqc]
 refine pickN 8 (some 12) rfl rfl (by kernel_rfl) (by kernel_rfl) (by kernel_rfl) (by decide) (fun _ _ _ h => h) (by rfl) (by assumption) ?_
 try simp only [Act.put, zqa, zqb, zqc]
 refine pickN 9 (some 13) rfl rfl (by kernel_rfl) (by kernel_rfl) (by kernel_rfl) (by decide) (fun _ _ _ h => h) (by rfl) (by assumption) ?_
 try simp only [Act.put, zqa, zqb, zqc]
 refine pickN 10 (some 14) rfl rfl (by kernel_rfl) (by kernel_rfl) (by kernel_rfl) (by decide) (fun _ _ _ h => h) (by rfl) (by assumption) ?_
 try simp only [Act.put, zqa, zqb, zqc]
 refine pickN 11 (some 15) rfl rfl (by kernel_rfl) (by kernel_rfl) (by kernel_rfl) (by decide) (fun _ _ _ h => h) (by rfl) (by assumption) ?_
 try simp only [Act.put, zqa, zqb, zqc]
 refine pickN 12 (some 16) rfl rfl (by kernel_rfl) (by kernel_rfl) (by kernel_rfl) (by decide) (fun _ _ _ h => h) (by rfl) (by assumption) ?_
 try simp only [Act.put, zqa, zqb, zqc]
 refine pickN 13 (some 17) rfl rfl (by kernel_rfl) (by kernel_rfl) (by kernel_rfl) (by decide) (fun _ _ _ h => h) (by rfl) (by assumption) ?_
 try simp only [Act.put, zqa, zqb, zqc]
 refine pickN 14 (some 18) rfl rfl (by kernel_rfl) (by kernel_rfl) (by kernel_rfl) (by decide) (fun _ _ _ h => h) (by rfl) (by assumption) ?_
 try simp only [Act.put, zqa, zqb, zqc]
 refine pickN 15 (some 19) rfl rfl (by kernel_rfl) (by kernel_rfl) (by kernel_rfl) (by decide) (fun _ _ _ h => h) (by rfl) (by assumption) ?_
 try simp only [Act.put, zqa, zqb, zqc]
 refine pkA (v := ?_) 16 (some 20) rfl rfl ?_ (by assumption) ?_
 rotate_left
 · intro w'
   go_simp
   try with_reducible rfl
 try simp only [Act.put, zqa, zqb, zqc]
 refine doneL (by kernel_rfl) ?_ _
 clear hHeld
 have I := ID
 have A := AD
 have KZ := KD
 clear ID AD KD
 obtain ⟨w3, hs3, I3, k3⟩ := st_at I.out 5
 have HS3 := hide hs3
 have F6 := hide I3
 have K7 := hide (KZ.out.tr k3)
 clear hs3 I3 k3
 go_wp2_with (first | (focus ((with_reducible refine wpList_store_w ?_ 213 (.tmp 23) (.const (.int .i64 5)) ?_ ?_ ?_ HS3.out ?_); rotate_left; rfl; rfl; rfl; rotate_left; rfl)))
 refine bodyPost_ret (results_none rfl _ _ _) rfl ?_
 exact ⟨rfl, F6.out, K7.out⟩

set_option maxHeartbeats 2000000 in
set_option maxRecDepth 100000 in
theorem right_same (b : Nat) (S : Us) (a : An) (hk : a.k = 3) (he : a.r = S.rg) (w : World) (X : UsAt w b S) : Calls Tryz.prog 172 #[.pointer (some ⟨b, 0, none⟩), .agg (anL a).toArray] w fun e' w' => e' = .returned (.tuple #[]) ∧ UsAt w' b ({ S with pl := 5 }) ∧ Kp [b] w w' := by
 have mixed : Tryz.prog.follows .mixedOrders = true := by kernel_rfl
 have b1 := (Below.refl w.heap.size w).alloc (Nat.le_refl _) (.cells (anL a).toArray 62)
 have A := hide (IsB.new w (anL a).toArray 62)
 have y0 : (w.alloc (.cells (anL a).toArray 62)).cell? ⟨w.heap.size, 0, none⟩ = some (.int .i64 a.k) := cl_ak A.out
 have I := hide (X.below b1)
 have KZ : Hid (Kp [b] w (w.alloc (.cells (anL a).toArray 62))) := Kp.of_below b1
 clear b1 X
 have HE : Hid (decide (a.r = S.rg) = true) := decide_eq_true he
 clear he
 rw [hk] at y0
 replace hk := hide hk
 go_enter Tryz.func172, Tryz.ntmps172
 go_wp2_with fail
 generalize (w.alloc (.cells (anL a).toArray 62)) = WA at *
 obtain ⟨H, hH⟩ : ∃ H, w.heap.size = H := ⟨_, rfl⟩
 rw [hH] at A y0 ⊢
 replace hH := hide hH
 clear y0
 have ID := hide (I.out.below ((Below.refl _ _).drew))
 have AD := hide (A.out.below ((Below.refl _ _).drew))
 have KD := hide (KZ.out.bel ((Below.refl _ _).drew))
 clear I A KZ
 refine regionL 17 (fun w' => UsAt w' b S ∧ IsB w' H (anL a).toArray 62) mixed ⟨ID.out, AD.out⟩ (fun hHeld => ?_)
 generalize WA.drew = WD2 at *
 refine pkA (v := ?_) 0 (some 4) rfl rfl ?_ (by assumption) ?_
 rotate_left
 · intro w'
   go_simp
   try with_reducible rfl
 try simp only [Act.put, zqa, zqb, zqc]
 refine pkL (v := ?_) 1 (some 5) rfl rfl ?_ (by assumption) ?_
 rotate_left
 · intro w' hSw
   obtain ⟨q0, q1⟩ := hSw
   have z0 := cl_ak q1
   rw [hk.out] at z0
   go_simp
   try with_reducible rfl
 try simp only [Act.put, zqa, zqb, zqc]
 refine pkA (v := ?_) 2 (some 6) rfl rfl ?_ (by assumption) ?_
 rotate_left
 · intro w'
   go_simp
   try with_reducible rfl
 try simp only [Act.put, zqa, zqb, zqc]
 refine pkA (v := ?_) 3 (some 7) rfl rfl ?_ (by assumption) ?_
 rotate_left
 · intro w'
   go_simp
   try with_reducible rfl
 try simp only [Act.put, zqa, zqb, zqc]
 refine pkA (v := ?_) 4 (some 8) rfl rfl ?_ (by assumption) ?_
 rotate_left
 · intro w'
   go_simp
   try with_reducible rfl
 try simp only [Act.put, zqa, zqb, zqc]
 refine pkL (v := ?_) 5 (some 9) rfl rfl ?_ (by assumption) ?_
 rotate_left
 · intro w' hSw
   obtain ⟨q0, q1⟩ := hSw
   have z0 := cl_ak q1
   rw [hk.out] at z0
   go_simp
   try with_reducible rfl
 try simp only [Act.put, zqa, zqb, zqc]
 refine pkA (v := ?_) 6 (some 10) rfl rfl ?_ (by assumption) ?_
 rotate_left
 · intro w'
   go_simp
   try with_reducible rfl
 try simp only [Act.put, zqa, zqb, zqc]
 refine pkA (v := ?_) 7 (some 11) rfl rfl ?_ (by assumption) ?_
 rotate_left
 · intro w'
   go_simp
   try with_reducible rfl
 try simp only [Act.put, zqa, zqb, zqc]
 refine pkA (v := ?_) 8 (some 12) rfl rfl ?_ (by assumption) ?_
 rotate_left
 · intro w'
   go_simp
   try with_reducible rfl
 try simp only [Act.put, zqa, zqb, zqc]
 refine pkL (v := .agg a.r.cells) 9 (some 13) rfl rfl ?_ (by assumption) ?_
 · intro w' hSw
   obtain ⟨q0, q1⟩ := hSw
   have z0 := cl_ak q1
   rw [hk.out] at z0
   exact exec_load rfl rfl (ld_ar q1)
 try simp only [Act.put, zqa, zqb, zqc]
 refine pkA (v := ?_) 10 (some 14) rfl rfl ?_ (by assumption) ?_
 rotate_left
 · intro w'
   go_simp
   try with_reducible rfl
 try simp only [Act.put, zqa, zqb, zqc]
 refine pkA (v := ?_) 11 (some 15) rfl rfl ?_ (by assumption) ?_
 rotate_left
 · intro w'
   go_simp
   try with_reducible rfl
 try simp only [Act.put, zqa, zqb, zqc]
 refine pkA (v := ?_) 12 (some 16) rfl rfl ?_ (by assumption) ?_
 rotate_left
 · intro w'
   go_simp
   try with_reducible rfl
 try simp only [Act.put, zqa, zqb, zqc]
 refine pkL (v := .agg S.rg.cells) 13 (some 17) rfl rfl ?_ (by assumption) ?_
 · intro w' hSw
   obtain ⟨q0, q1⟩ := hSw
   have z0 := cl_ak q1
   rw [hk.out] at z0
   exact exec_load rfl rfl (ld_right q0)
 try simp only [Act.put, zqa, zqb, zqc]
 refine pkA (v := .bool true) 14 (some 18) rfl rfl ?_ (by assumption) ?_
 · intro w'
   exact exec_bin rguard rfl rfl rfl (by rw [eqr_w, HE.out])
 try simp only [Act.put, zqa, zqb, zqc]
 refine pkA (v := ?_) 15 (some 19) rfl rfl ?_ (by assumption) ?_
 rotate_left
 · intro w'
   go_simp
   try with_reducible rfl
 try simp only [Act.put, zqa, zqb, zqc]
 refine pkA (v := ?_) 16 (some 20) rfl rfl ?_ (by assumption) ?_
 rotate_left
 · intro w'
   go_simp
   try with_reducible rfl
 try simp only [Act.put, zqa, zqb, zqc]
 refine doneL (by kernel_rfl) ?_ _
 clear hHeld
 have I := ID
 have A := AD
 have KZ := KD
 clear ID AD KD
 obtain ⟨w3, hs3, I3, k3⟩ := st_at I.out 5
 have HS3 := hide hs3
 have F6 := hide I3
 have K7 := hide (KZ.out.tr k3)
 clear hs3 I3 k3
 go_wp2_with (first | (focus ((with_reducible refine wpList_store_w ?_ 213 (.tmp 23) (.const (.int .i64 5)) ?_ ?_ ?_ HS3.out ?_); rotate_left; rfl; rfl; rfl; rotate_left; rfl)))
 refine bodyPost_ret (results_none rfl _ _ _) rfl ?_
 exact ⟨rfl, F6.out, K7.out⟩

set_option maxHeartbeats 2000000 in
set_option maxRecDepth 100000 in
theorem right_dead (b : Nat) (S : Us) (a : An) (hk : a.k = 3) (he : ¬a.r = S.rg) (w : World) (X : UsAt w b S) : Calls Tryz.prog 172 #[.pointer (some ⟨b, 0, none⟩), .agg (anL a).toArray] w fun e' w' => e' = .returned (.tuple #[]) ∧ UsAt w' b ({ S with pl := 7 }) ∧ Kp [b] w w' := by
 have mixed : Tryz.prog.follows .mixedOrders = true := by kernel_rfl
 have b1 := (Below.refl w.heap.size w).alloc (Nat.le_refl _) (.cells (anL a).toArray 62)
 have A := hide (IsB.new w (anL a).toArray 62)
 have y0 : (w.alloc (.cells (anL a).toArray 62)).cell? ⟨w.heap.size, 0, none⟩ = some (.int .i64 a.k) := cl_ak A.out
 have I := hide (X.below b1)
 have KZ : Hid (Kp [b] w (w.alloc (.cells (anL a).toArray 62))) := Kp.of_below b1
 clear b1 X
 have HE : Hid (decide (a.r = S.rg) = false) := decide_eq_false he
 clear he
 rw [hk] at y0
 replace hk := hide hk
 go_enter Tryz.func172, Tryz.ntmps172
 go_wp2_with fail
 generalize (w.alloc (.cells (anL a).toArray 62)) = WA at *
 obtain ⟨H, hH⟩ : ∃ H, w.heap.size = H := ⟨_, rfl⟩
 rw [hH] at A y0 ⊢
 replace hH := hide hH
 clear y0
 have ID := hide (I.out.below ((Below.refl _ _).drew))
 have AD := hide (A.out.below ((Below.refl _ _).drew))
 have KD := hide (KZ.out.bel ((Below.refl _ _).drew))
 clear I A KZ
 refine regionL 17 (fun w' => UsAt w' b S ∧ IsB w' H (anL a).toArray 62) mixed ⟨ID.out, AD.out⟩ (fun hHeld => ?_)
 generalize WA.drew = WD2 at *
 refine pkA (v := ?_) 0 (some 4) rfl rfl ?_ (by assumption) ?_
 rotate_left
 · intro w'
   go_simp
   try with_reducible rfl
 try simp only [Act.put, zqa, zqb, zqc]
 refine pkL (v := ?_) 1 (some 5) rfl rfl ?_ (by assumption) ?_
 rotate_left
 · intro w' hSw
   obtain ⟨q0, q1⟩ := hSw
   have z0 := cl_ak q1
   rw [hk.out] at z0
   go_simp
   try with_reducible rfl
 try simp only [Act.put, zqa, zqb, zqc]
 refine pkA (v := ?_) 2 (some 6) rfl rfl ?_ (by assumption) ?_
 rotate_left
 · intro w'
   go_simp
   try with_reducible rfl
 try simp only [Act.put, zqa, zqb, zqc]
 refine pkA (v := ?_) 3 (some 7) rfl rfl ?_ (by assumption) ?_
 rotate_left
 · intro w'
   go_simp
   try with_reducible rfl
 try simp only [Act.put, zqa, zqb, zqc]
 refine pkA (v := ?_) 4 (some 8) rfl rfl ?_ (by assumption) ?_
 rotate_left
 · intro w'
   go_simp
   try with_reducible rfl
 try simp only [Act.put, zqa, zqb, zqc]
 refine pkL (v := ?_) 5 (some 9) rfl rfl ?_ (by assumption) ?_
 rotate_left
 · intro w' hSw
   obtain ⟨q0, q1⟩ := hSw
   have z0 := cl_ak q1
   rw [hk.out] at z0
   go_simp
   try with_reducible rfl
 try simp only [Act.put, zqa, zqb, zqc]
 refine pkA (v := ?_) 6 (some 10) rfl rfl ?_ (by assumption) ?_
 rotate_left
 · intro w'
   go_simp
   try with_reducible rfl
 try simp only [Act.put, zqa, zqb, zqc]
 refine pkA (v := ?_) 7 (some 11) rfl rfl ?_ (by assumption) ?_
 rotate_left
 · intro w'
   go_simp
   try with_reducible rfl
 try simp only [Act.put, zqa, zqb, zqc]
 refine pkA (v := ?_) 8 (some 12) rfl rfl ?_ (by assumption) ?_
 rotate_left
 · intro w'
   go_simp
   try with_reducible rfl
 try simp only [Act.put, zqa, zqb, zqc]
 refine pkL (v := .agg a.r.cells) 9 (some 13) rfl rfl ?_ (by assumption) ?_
 · intro w' hSw
   obtain ⟨q0, q1⟩ := hSw
   have z0 := cl_ak q1
   rw [hk.out] at z0
   exact exec_load rfl rfl (ld_ar q1)
 try simp only [Act.put, zqa, zqb, zqc]
 refine pkA (v := ?_) 10 (some 14) rfl rfl ?_ (by assumption) ?_
 rotate_left
 · intro w'
   go_simp
   try with_reducible rfl
 try simp only [Act.put, zqa, zqb, zqc]
 refine pkA (v := ?_) 11 (some 15) rfl rfl ?_ (by assumption) ?_
 rotate_left
 · intro w'
   go_simp
   try with_reducible rfl
 try simp only [Act.put, zqa, zqb, zqc]
 refine pkA (v := ?_) 12 (some 16) rfl rfl ?_ (by assumption) ?_
 rotate_left
 · intro w'
   go_simp
   try with_reducible rfl
 try simp only [Act.put, zqa, zqb, zqc]
 refine pkL (v := .agg S.rg.cells) 13 (some 17) rfl rfl ?_ (by assumption) ?_
 · intro w' hSw
   obtain ⟨q0, q1⟩ := hSw
   have z0 := cl_ak q1
   rw [hk.out] at z0
   exact exec_load rfl rfl (ld_right q0)
 try simp only [Act.put, zqa, zqb, zqc]
 refine pkA (v := .bool false) 14 (some 18) rfl rfl ?_ (by assumption) ?_
 · intro w'
   exact exec_bin rguard rfl rfl rfl (by rw [eqr_w, HE.out])
 try simp only [Act.put, zqa, zqb, zqc]
 refine pkA (v := ?_) 15 (some 19) rfl rfl ?_ (by assumption) ?_
 rotate_left
 · intro w'
   go_simp
   try with_reducible rfl
 try simp only [Act.put, zqa, zqb, zqc]
 refine pkA (v := ?_) 16 (some 20) rfl rfl ?_ (by assumption) ?_
 rotate_left
 · intro w'
   go_simp
   try with_reducible rfl
 try simp only [Act.put, zqa, zqb, zqc]
 refine doneL (by kernel_rfl) ?_ _
 clear hHeld
 have I := ID
 have A := AD
 have KZ := KD
 clear ID AD KD
 obtain ⟨w3, hs3, I3, k3⟩ := st_at I.out 7
 have HS3 := hide hs3
 have F6 := hide I3
 have K7 := hide (KZ.out.tr k3)
 clear hs3 I3 k3
 go_wp2_with (first | (focus ((with_reducible refine wpList_store_w ?_ 213 (.tmp 26) (.const (.int .i64 7)) ?_ ?_ ?_ HS3.out ?_); rotate_left; rfl; rfl; rfl; rotate_left; rfl)))
 refine bodyPost_end (results_none rfl _ _ _) rfl ?_
 exact ⟨rfl, F6.out, K7.out⟩

set_option maxHeartbeats 2000000 in
set_option maxRecDepth 100000 in
theorem right_no (b : Nat) (S : Us) (a : An) (hk1 : ¬a.k = 1) (hk3 : ¬a.k = 3) (w : World) (X : UsAt w b S) : Calls Tryz.prog 172 #[.pointer (some ⟨b, 0, none⟩), .agg (anL a).toArray] w fun e' w' => e' = .returned (.tuple #[]) ∧ UsAt w' b ({ S with pl := 7 }) ∧ Kp [b] w w' := by
 have mixed : Tryz.prog.follows .mixedOrders = true := by kernel_rfl
 have b1 := (Below.refl w.heap.size w).alloc (Nat.le_refl _) (.cells (anL a).toArray 62)
 have A := hide (IsB.new w (anL a).toArray 62)
 have y0 : (w.alloc (.cells (anL a).toArray 62)).cell? ⟨w.heap.size, 0, none⟩ = some (.int .i64 a.k) := cl_ak A.out
 have I := hide (X.below b1)
 have KZ : Hid (Kp [b] w (w.alloc (.cells (anL a).toArray 62))) := Kp.of_below b1
 clear b1 X
 have e1 : (a.k == 1) = false := by simpa using hk1
 have e3 : (a.k == 3) = false := by simpa using hk3
 go_enter Tryz.func172, Tryz.ntmps172
 go_wp2_with fail
 generalize (w.alloc (.cells (anL a).toArray 62)) = WA at *
 obtain ⟨H, hH⟩ : ∃ H, w.heap.size = H := ⟨_, rfl⟩
 rw [hH] at A y0 ⊢
 replace hH := hide hH
 clear y0
 have ID := hide (I.out.below ((Below.refl _ _).drew))
 have AD := hide (A.out.below ((Below.refl _ _).drew))
 have KD := hide (KZ.out.bel ((Below.refl _ _).drew))
 clear I A KZ
 refine regionL 17 (fun w' => UsAt w' b S ∧ IsB w' H (anL a).toArray 62) mixed ⟨ID.out, AD.out⟩ (fun hHeld => ?_)
 generalize WA.drew = WD2 at *
 refine pkA (v := ?_) 0 (some 4) rfl rfl ?_ (by assumption) ?_
 rotate_left
 · intro w'
   go_simp
   try with_reducible rfl
 try simp only [Act.put, zqa, zqb, zqc]
 refine pkL (v := ?_) 1 (some 5) rfl rfl ?_ (by assumption) ?_
 rotate_left
 · intro w' hSw
   obtain ⟨q0, q1⟩ := hSw
   have z0 := cl_ak q1
   skip
   go_simp
   try with_reducible rfl
 try simp only [Act.put, zqa, zqb, zqc]
 refine pkA (v := ?_) 2 (some 6) rfl rfl ?_ (by assumption) ?_
 rotate_left
 · intro w'
   go_simp
   try with_reducible rfl
 try simp only [Act.put, zqa, zqb, zqc]
 refine pkA (v := ?_) 3 (some 7) rfl rfl ?_ (by assumption) ?_
 rotate_left
 · intro w'
   go_simp
   try with_reducible rfl
 try simp only [Act.put, zqa, zqb, zqc]
 refine pkA (v := ?_) 4 (some 8) rfl rfl ?_ (by assumption) ?_
 rotate_left
 · intro w'
   go_simp
   try with_reducible rfl
 try simp only [Act.put, zqa, zqb, zqc]
 refine pkL (v := ?_) 5 (some 9) rfl rfl ?_ (by assumption) ?_
 rotate_left
 · intro w' hSw
   obtain ⟨q0, q1⟩ := hSw
   have z0 := cl_ak q1
   skip
   go_simp
   try with_reducible rfl
 try simp only [Act.put, zqa, zqb, zqc]
 refine pkA (v := ?_) 6 (some 10) rfl rfl ?_ (by assumption) ?_
 rotate_left
 · intro w'
   go_simp
   try with_reducible rfl
 try simp only [Act.put, zqa, zqb, zqc]
 refine pkA (v := ?_) 7 (some 11) rfl rfl ?_ (by assumption) ?_
 rotate_left
 · intro w'
   go_simp
   try with_reducible rfl
 try simp only [Act.put, zqa, zqb, zqc]
 refine pickN 8 (some 12) rfl rfl (by kernel_rfl) (by kernel_rfl) (by kernel_rfl) (by decide) (fun _ _ _ h => h) (by rfl) (by assumption) ?_
 try simp only [Act.put, zqa, zqb, zqc]
 refine pickN 9 (some 13) rfl rfl (by kernel_rfl) (by kernel_rfl) (by kernel_rfl) (by decide) (fun _ _ _ h => h) (by rfl) (by assumption) ?_
 try simp only [Act.put, zqa, zqb, zqc]
 refine pickN 10 (some 14) rfl rfl (by kernel_rfl) (by kernel_rfl) (by kernel_rfl) (by decide) (fun _ _ _ h => h) (by rfl) (by assumption) ?_
 try simp only [Act.put, zqa, zqb, zqc]
 refine pickN 11 (some 15) rfl rfl (by kernel_rfl) (by kernel_rfl) (by kernel_rfl) (by decide) (fun _ _ _ h => h) (by rfl) (by assumption) ?_
 try simp only [Act.put, zqa, zqb, zqc]
 refine pickN 12 (some 16) rfl rfl (by kernel_rfl) (by kernel_rfl) (by kernel_rfl) (by decide) (fun _ _ _ h => h) (by rfl) (by assumption) ?_
 try simp only [Act.put, zqa, zqb, zqc]
 refine pickN 13 (some 17) rfl rfl (by kernel_rfl) (by kernel_rfl) (by kernel_rfl) (by decide) (fun _ _ _ h => h) (by rfl) (by assumption) ?_
 try simp only [Act.put, zqa, zqb, zqc]
 refine pickN 14 (some 18) rfl rfl (by kernel_rfl) (by kernel_rfl) (by kernel_rfl) (by decide) (fun _ _ _ h => h) (by rfl) (by assumption) ?_
 try simp only [Act.put, zqa, zqb, zqc]
 refine pkA (v := ?_) 15 (some 19) rfl rfl ?_ (by assumption) ?_
 rotate_left
 · intro w'
   go_simp
   try with_reducible rfl
 try simp only [Act.put, zqa, zqb, zqc]
 refine pkA (v := ?_) 16 (some 20) rfl rfl ?_ (by assumption) ?_
 rotate_left
 · intro w'
   go_simp
   try with_reducible rfl
 try simp only [Act.put, zqa, zqb, zqc]
 refine doneL (by kernel_rfl) ?_ _
 clear hHeld
 have I := ID
 have A := AD
 have KZ := KD
 clear ID AD KD
 obtain ⟨w3, hs3, I3, k3⟩ := st_at I.out 7
 have HS3 := hide hs3
 have F6 := hide I3
 have K7 := hide (KZ.out.tr k3)
 clear hs3 I3 k3
 go_wp2_with (first | (focus ((with_reducible refine wpList_store_w ?_ 213 (.tmp 26) (.const (.int .i64 7)) ?_ ?_ ?_ HS3.out ?_); rotate_left; rfl; rfl; rfl; rotate_left; rfl)))
 refine bodyPost_end (results_none rfl _ _ _) rfl ?_
 exact ⟨rfl, F6.out, K7.out⟩

theorem rt_any (b : Nat) (S : Us) (a : An) (w : World) (X : UsAt w b S) : Calls Tryz.prog 172 #[.pointer (some ⟨b, 0, none⟩), .agg (anL a).toArray] w fun e' w' => e' = .returned (.tuple #[]) ∧ UsAt w' b (S.hRt a) ∧ Kp [b] w w' := by
 unfold Us.hRt
 by_cases h1 : a.k = 1
 · rw [if_pos (Or.inl h1)]; exact right_ok b S a h1 w X
 · by_cases h3 : a.k = 3
   · by_cases hi : a.r = S.rg
     · rw [if_pos (Or.inr ⟨h3, hi⟩)]; exact right_same b S a h3 hi w X
     · rw [if_neg fun h => h.elim h1 fun h => hi h.2]; exact right_dead b S a h3 hi w X
   · rw [if_neg fun h => h.elim h1 fun h => h3 h.1]; exact right_no b S a h1 h3 w X

end Go.Proofs.YtokehogcenjefaaGreatDoor
