/- The document's end, counts, again, known. -/
import Derived.Test.YtokehogcenjefaaGreatDoorDA
import Derived.Test.YtokehogcenjefaaGreatDoorSI
namespace Go.Proofs.YtokehogcenjefaaGreatDoor
open Go.RowKit Go.Maps Go.ChangeMaps

set_option maxHeartbeats 2000000 in
set_option maxRecDepth 100000 in
theorem dend_any (d base : Nat) (S : Sk) (s : Rf) (L : List Wl) (e : Int) (l r : Rf) (f : Bool) (w : World) (X : Dk w d base S s L) : Calls Tryz.prog 94 #[.pointer (some ⟨d, 0, none⟩), .agg (rsL e l r f).toArray] w fun e' w' => e' = .returned (.tuple #[]) ∧ Dk w' d base ({ S with ov := true, e := e, rl := l, rr := r, fd := f }) s L ∧ Kd base w w' := by
 have mixed : Tryz.prog.follows .mixedOrders = true := by kernel_rfl
 have b1 := ((Below.refl w.heap.size w).alloc (Nat.le_refl _) (.cells (rsL e l r f).toArray 51)).drew
 have RB : Hid (IsB ((w.alloc (.cells (rsL e l r f).toArray 51)).drew) w.heap.size (rsL e l r f).toArray 51) := (IsB.new w (rsL e l r f).toArray 51).below ((Below.refl _ _).drew)
 obtain ⟨to, v, hto, X0⟩ := X
 have X1 := X0.below b1
 have hlt := X0.blk.lt
 have KZ : Hid (Kd base w ((w.alloc (.cells (rsL e l r f).toArray 51)).drew)) := Kd.of_below b1
 obtain ⟨w2, hs2, I2, k2⟩ := u_ov X1.blk true
 have HS2 := hide hs2
 obtain ⟨w3, hs3, I3, k3⟩ := u_res I2 e l r f
 have HS3 := hide hs3
 have T := X1.turn (k2.tr k3) I3
 have F6 : Hid (Dk w3 d base { S with ov := true, e := e, rl := l, rr := r, fd := f } s L) := ⟨to, v, hto, T.1⟩
 have K7 := hide (KZ.out.tr T.2)
 have RB2 : Hid (IsB w2 w.heap.size (rsL e l r f).toArray 51) := RB.out.kp k2 (by simp; omega)
 clear hs2 I2 k2 hs3 I3 k3
 clear T X1 X0 b1 KZ hlt
 go_enter Tryz.func94, Tryz.ntmps94
 go_wp2_with fail
 refine regionL 8 (fun w' => IsB w' w.heap.size (rsL e l r f).toArray 51) mixed RB.out (fun hHeld => ?_)
 generalize ((w.alloc (.cells (rsL e l r f).toArray 51)).drew) = WD at *
 refine pkA (v := ?_) 0 (some 4) rfl rfl ?_ (by assumption) ?_
 rotate_left
 · intro w'
   go_simp
   try with_reducible rfl
 try simp only [Act.put, zqa, zqb, zqc]
 refine pkA (v := ?_) 1 (some 5) rfl rfl ?_ (by assumption) ?_
 rotate_left
 · intro w'
   go_simp
   try with_reducible rfl
 try simp only [Act.put, zqa, zqb, zqc]
 refine pkL (v := .agg (rsL e l r f).toArray) 2 (some 6) rfl rfl ?_ (by assumption) ?_
 · intro w' hSw
   have q0 := hSw
   exact exec_load rfl rfl (load_res q0)
 try simp only [Act.put, zqa, zqb, zqc]
 refine pkA (v := ?_) 3 (some 7) rfl rfl ?_ (by assumption) ?_
 rotate_left
 · intro w'
   go_simp
   try with_reducible rfl
 try simp only [Act.put, zqa, zqb, zqc]
 refine pkA (v := ?_) 4 (some 8) rfl rfl ?_ (by assumption) ?_
 rotate_left
 · intro w'
   go_simp
   try with_reducible rfl
 try simp only [Act.put, zqa, zqb, zqc]
 refine oneL (i := 5) (by kernel_rfl) rfl (fun K hK => ?_)
 refine step_store_w rfl 4 (.tmp 8) (.const (.bool true)) rfl rfl rfl HS2.out ?_
 refine hK.out _ _ ?_ ?_
 · exact RB2.out
 clear hK K
 try simp only [Act.put, List.setIfInBounds_toArray]
 clear hHeld
 have hHeld : (fun w' => IsB w' w.heap.size (rsL e l r f).toArray 51) w2 := RB2.out
 refine pkA (v := ?_) 6 (some 9) rfl rfl ?_ (by assumption) ?_
 rotate_left
 · intro w'
   go_simp
   try with_reducible rfl
 try simp only [Act.put]
 refine pkA (v := ?_) 7 (some 10) rfl rfl ?_ (by assumption) ?_
 rotate_left
 · intro w'
   go_simp
   try with_reducible rfl
 try simp only [Act.put]
 refine lateL (i := 8) (by kernel_rfl) rfl (by decide) (by kernel_rfl) (fun K hK => ?_)
 refine step_store_w rfl 51 (.tmp 10) (.tmp 6) rfl rfl rfl HS3.out ?_
 refine hK.out _ _ ?_
 clear hK K
 try simp only [Act.put]
 refine doneL (by kernel_rfl) ?_ _
 clear hHeld
 try go_wp2
 refine bodyPost_end (results_none rfl _ _ _) rfl ?_
 exact ⟨rfl, F6.out, K7.out⟩

set_option maxHeartbeats 2000000 in
set_option maxRecDepth 100000 in
theorem counts_no (d base : Nat) (S : Sk) (s : Rf) (L : List Wl) (hn : S.n = 64) (w : World) (X : Dk w d base S s L) : Calls Tryz.prog 91 #[.pointer (some ⟨d, 0, none⟩)] w fun e' w' => e' = .returned (.bool false) ∧ Dk w' d base (S.busy) s L ∧ Kd base w w' := by
 have y22 : w.cell? ⟨d, 22, none⟩ = some (.int .i64 S.n) := by obtain ⟨to, v, hto, X0⟩ := X; exact c_n X0.blk
 rw [hn] at y22
 have CT := hide (dend_any d base S s L 121 zr zr false w X)
 clear X hn
 go_enter Tryz.func91, Tryz.ntmps91
 go_wp2_with fail
 refine CT.out.mono ?_
 rintro e' w6 ⟨rfl, X6, K6⟩
 have F6 := hide X6
 have K7 := hide K6
 clear X6 K6 CT
 go_wp2
 go_ret
 exact ⟨rfl, F6.out, K7.out⟩

set_option maxHeartbeats 2000000 in
set_option maxRecDepth 100000 in
theorem counts_yes (d base : Nat) (S : Sk) (s : Rf) (L : List Wl) (h0 : 0 ≤ S.n) (hn : S.n < 64) (w : World) (X : Dk w d base S s L) : Calls Tryz.prog 91 #[.pointer (some ⟨d, 0, none⟩)] w fun e' w' => e' = .returned (.bool true) ∧ Dk w' d base ({ S with n := S.n + 1 }) s L ∧ Kd base w w' := by
 obtain ⟨to, v, hto, X0⟩ := X
 have y22 := c_n X0.blk
 obtain ⟨w2, hs2, I2, k2⟩ := u_n X0.blk (S.n + 1)
 have HS2 := hide hs2
 have T := X0.turn k2 I2
 have F6 : Hid (Dk w2 d base { S with n := S.n + 1 } s L) := ⟨to, v, hto, T.1⟩
 have K7 := hide T.2
 clear hs2 I2 k2
 clear T X0
 have d1 : decide (64 ≤ S.n) = false := by simp; omega
 have d2 : decide (S.n ≥ 64) = false := by simp; omega
 have hw := wrap_small S.n h0 (by omega)
 generalize hg : S.n = sn at *
 replace hg := hide hg
 clear h0 hn
 go_enter Tryz.func91, Tryz.ntmps91
 go_wp2_with (first | (focus ((with_reducible refine wpList_store_w ?_ 3 (.tmp 17) (.tmp 15) ?_ ?_ ?_ HS2.out ?_); rotate_left; rfl; rfl; rfl; rotate_left; rfl)))
 go_ret
 exact ⟨rfl, F6.out, K7.out⟩

theorem begin_lk {S : Sk} {x : Prop} (h : S.begin.lk = true) (h2 : S.n ≠ 64 := by assumption) : x := by
 unfold Sk.begin at h
 rw [if_neg h2] at h
 cases h

set_option maxHeartbeats 2000000 in
set_option maxRecDepth 100000 in
theorem dagain_no (d base : Nat) (S : Sk) (s : Rf) (L : List Wl) (hn : S.n = 64) (w : World) (X : Dk w d base S s L) : Calls Tryz.prog 66 #[.pointer (some ⟨d, 0, none⟩)] w fun e' w' => e' = .returned (.tuple #[]) ∧ Dk w' d base (S.busy) s L ∧ Kd base w w' := by
 have CT := hide (counts_no d base S s L hn w X)
 clear X hn
 go_enter Tryz.func66, Tryz.ntmps66
 go_wp2_with fail
 refine CT.out.mono ?_
 rintro e' w6 ⟨rfl, X6, K6⟩
 have F6 := hide X6
 have K7 := hide K6
 clear X6 K6 CT
 try go_wp2
 refine bodyPost_end (results_none rfl _ _ _) rfl ?_
 exact ⟨rfl, F6.out, K7.out⟩

set_option maxHeartbeats 2000000 in
set_option maxRecDepth 100000 in
theorem dagain_yes (d base : Nat) (S : Sk) (s : Rf) (L : List Wl) (h0 : 0 ≤ S.n) (hn : S.n < 64) (hh : ∃ h, S.hd = ⟨0, 1, 0, h, 0⟩) (w : World) (X : Dk w d base S s L) : Calls Tryz.prog 66 #[.pointer (some ⟨d, 0, none⟩)] w fun e' w' => e' = .returned (.tuple #[]) ∧ Dk w' d base (S.begin) s L ∧ Kd base w w' := by
 have mixed : Tryz.prog.follows .mixedOrders = true := by kernel_rfl
 have CT := hide (counts_yes d base S s L h0 hn w X)
 have hn2 : S.n ≠ 64 := by omega
 have hEQ : Hid (∀ to v, dkL { S with n := S.n + 1, pt := ⟨0, 1, 0, S.hd.ln, 0⟩, wl := S.hd.ln, wb := 0, lk := false } s to v = dkL S.begin s to v) := by
   intro to v
   obtain ⟨h, hhe⟩ := hh
   unfold Sk.begin
   rw [if_neg hn2]
   simp only [dkL, hhe]
 clear X h0 hn hh
 go_enter Tryz.func66, Tryz.ntmps66
 go_wp2_with fail
 refine CT.out.mono ?_
 rintro e' w6 ⟨rfl, ⟨to, v, hto, X6⟩, K6⟩
 have XD := hide (X6.below ((Below.refl _ _).drew))
 have KD := hide (K6.bel ((Below.refl _ _).drew))
 have C0 := hide (c_h XD.out.blk)
 clear X6 K6 CT hto
 go_wp2_with fail
 refine regionL 23 (fun w' => w'.cell? ⟨d, 0, none⟩ = some (.int .i64 S.hd.ln)) mixed C0.out (fun hHeld => ?_)
 generalize w6.drew = WD at *
 refine pkA (v := ?_) 0 (some 4) rfl rfl ?_ (by assumption) ?_
 rotate_left
 · intro w'
   go_simp
   try with_reducible rfl
 try simp only [Act.put, zqa, zqb, zqc]
 refine pkA (v := ?_) 1 (some 5) rfl rfl ?_ (by assumption) ?_
 rotate_left
 · intro w'
   go_simp
   try with_reducible rfl
 try simp only [Act.put, zqa, zqb, zqc]
 refine pkA (v := ?_) 2 (some 6) rfl rfl ?_ (by assumption) ?_
 rotate_left
 · intro w'
   go_simp
   try with_reducible rfl
 try simp only [Act.put, zqa, zqb, zqc]
 refine pkA (v := ?_) 3 (some 7) rfl rfl ?_ (by assumption) ?_
 rotate_left
 · intro w'
   go_simp
   try with_reducible rfl
 try simp only [Act.put, zqa, zqb, zqc]
 refine pkA (v := ?_) 4 (some 8) rfl rfl ?_ (by assumption) ?_
 rotate_left
 · intro w'
   go_simp
   try with_reducible rfl
 try simp only [Act.put, zqa, zqb, zqc]
 refine pkA (v := ?_) 5 (some 9) rfl rfl ?_ (by assumption) ?_
 rotate_left
 · intro w'
   go_simp
   try with_reducible rfl
 try simp only [Act.put, zqa, zqb, zqc]
 refine pkA (v := ?_) 6 (some 10) rfl rfl ?_ (by assumption) ?_
 rotate_left
 · intro w'
   go_simp
   try with_reducible rfl
 try simp only [Act.put, zqa, zqb, zqc]
 refine pkL (v := ?_) 7 (some 11) rfl rfl ?_ (by assumption) ?_
 rotate_left
 · intro w' hSw
   have z0 := hSw
   go_simp
   try with_reducible rfl
 try simp only [Act.put, zqa, zqb, zqc]
 refine pkA (v := ?_) 9 (some 13) rfl rfl ?_ (by assumption) ?_
 rotate_left
 · intro w'
   go_simp
   try with_reducible rfl
 try simp only [Act.put, zqa, zqb, zqc]
 refine pkA (v := ?_) 10 (some 14) rfl rfl ?_ (by assumption) ?_
 rotate_left
 · intro w'
   go_simp
   try with_reducible rfl
 try simp only [Act.put, zqa, zqb, zqc]
 refine pkA (v := ?_) 11 (some 15) rfl rfl ?_ (by assumption) ?_
 rotate_left
 · intro w'
   go_simp
   try with_reducible rfl
 try simp only [Act.put, zqa, zqb, zqc]
 refine pkA (v := ?_) 12 (some 16) rfl rfl ?_ (by assumption) ?_
 rotate_left
 · intro w'
   go_simp
   try with_reducible rfl
 try simp only [Act.put, zqa, zqb, zqc]
 refine pkL (v := ?_) 13 (some 17) rfl rfl ?_ (by assumption) ?_
 rotate_left
 · intro w' hSw
   have z0 := hSw
   go_simp
   try with_reducible rfl
 try simp only [Act.put, zqa, zqb, zqc]
 refine pkA (v := (.agg #[.int .i64 (S.hd.ln), .int .u64 (0)])) 14 (some 18) rfl rfl ?_ (by assumption) ?_
 · intro w'
   kernel_rfl
 try simp only [Act.put, zqa, zqb, zqc]
 refine oneL (i := 8) (by kernel_rfl) rfl (fun K hK => ?_)
 go_simp
 refine (head_any S.hd.ln WD).mono ?_
 rintro e' w5 ⟨rfl, hb⟩
 have X5 := XD.out.below hb
 have K5 := hide (KD.out.bel hb)
 obtain ⟨w6, hs6, I6, k6⟩ := u_at X5.blk ⟨0, 1, 0, S.hd.ln, 0⟩
 have HS6 := hide hs6
 obtain ⟨w7, hs7, I7, k7⟩ := u_w I6 S.hd.ln 0
 have HS7 := hide hs7
 obtain ⟨w8, hs8, I8, k8⟩ := u_lk I7 false
 have HS8 := hide hs8
 have C5 := hide (c_h X5.blk)
 have C6 := hide (c_h I6)
 have C7 := hide (c_h I7)
 have T := X5.turn (k6.tr (k7.tr k8)) I8
 have F6 : Hid (Dk w8 d base S.begin s L) := ⟨to, v, fun c => begin_lk c, T.1.le, (hEQ.out to v) ▸ T.1.blk, T.1.row, T.1.new⟩
 have K7 := hide (K5.out.tr T.2)
 clear hs6 hs7 hs8 I6 I7 I8 k6 k7 k8 T hb X5 K5
 refine hK.out _ _ ?_ ?_
 · exact C5.out
 clear hK K
 try simp only [Act.put, zqa, zqb, zqc]
 clear hHeld
 have hHeld : (fun w' => w'.cell? ⟨d, 0, none⟩ = some (.int .i64 S.hd.ln)) w5 := C5.out
 refine pkA (v := ?_) 15 (some 19) rfl rfl ?_ (by assumption) ?_
 rotate_left
 · intro w'
   go_simp
   try with_reducible rfl
 try simp only [Act.put, zqa, zqb, zqc]
 refine pkA (v := ?_) 16 (some 20) rfl rfl ?_ (by assumption) ?_
 rotate_left
 · intro w'
   go_simp
   try with_reducible rfl
 try simp only [Act.put, zqa, zqb, zqc]
 refine oneL (i := 17) (by kernel_rfl) rfl (fun K hK => ?_)
 refine step_store_w rfl 29 (.tmp 20) (.tmp 12) rfl rfl rfl HS6.out ?_
 refine hK.out _ _ ?_ ?_
 · exact C6.out
 clear hK K
 try simp only [Act.put, List.setIfInBounds_toArray]
 clear hHeld
 have hHeld : (fun w' => w'.cell? ⟨d, 0, none⟩ = some (.int .i64 S.hd.ln)) w6 := C6.out
 refine pkA (v := ?_) 18 (some 21) rfl rfl ?_ (by assumption) ?_
 rotate_left
 · intro w'
   go_simp
   try with_reducible rfl
 try simp only [Act.put]
 refine pkA (v := ?_) 19 (some 22) rfl rfl ?_ (by assumption) ?_
 rotate_left
 · intro w'
   go_simp
   try with_reducible rfl
 try simp only [Act.put]
 refine oneL (i := 20) (by kernel_rfl) rfl (fun K hK => ?_)
 refine step_store_w rfl 27 (.tmp 22) (.tmp 18) rfl rfl rfl HS7.out ?_
 refine hK.out _ _ ?_ ?_
 · exact C7.out
 clear hK K
 try simp only [Act.put]
 clear hHeld
 have hHeld : (fun w' => w'.cell? ⟨d, 0, none⟩ = some (.int .i64 S.hd.ln)) w7 := C7.out
 refine pkA (v := ?_) 21 (some 23) rfl rfl ?_ (by assumption) ?_
 rotate_left
 · intro w'
   go_simp
   try with_reducible rfl
 try simp only [Act.put]
 refine pkA (v := ?_) 22 (some 24) rfl rfl ?_ (by assumption) ?_
 rotate_left
 · intro w'
   go_simp
   try with_reducible rfl
 try simp only [Act.put]
 refine lateL (i := 23) (by kernel_rfl) rfl (by decide) (by kernel_rfl) (fun K hK => ?_)
 refine step_store_w rfl 4 (.tmp 24) (.const (.bool false)) rfl rfl rfl HS8.out ?_
 refine hK.out _ _ ?_
 clear hK K
 try simp only [Act.put]
 refine doneL (by kernel_rfl) ?_ _
 clear hHeld
 try go_wp2
 refine bodyPost_end (results_none rfl _ _ _) rfl ?_
 exact ⟨rfl, F6.out, K7.out⟩

theorem dagain_any (d base : Nat) (S : Sk) (s : Rf) (L : List Wl) (h0 : 0 ≤ S.n) (h1 : S.n ≤ 64) (hh : ∃ h, S.hd = ⟨0, 1, 0, h, 0⟩) (w : World) (X : Dk w d base S s L) : Calls Tryz.prog 66 #[.pointer (some ⟨d, 0, none⟩)] w fun e' w' => e' = .returned (.tuple #[]) ∧ Dk w' d base S.begin s L ∧ Kd base w w' := by
 by_cases hn : S.n = 64
 · have h := dagain_no d base S s L hn w X
   unfold Sk.begin
   rw [if_pos hn]
   exact h
 · exact dagain_yes d base S s L h0 (by omega) hh w X

theorem eqv_w (a b c e : Int) (w : World) : (binOp .eql 27 (.agg #[.int .i64 (a), .int .u64 (b)]) (.agg #[.int .i64 (c), .int .u64 (e)])).run Tryz.prog w = .ok (.bool (a == c && b == e)) w := by
 have u1 := Tryz.underlying3
 have a1 := Tryz.isAgg3
 have z1 := Tryz.sizeOf3
 have u2 := Tryz.underlying23
 have a2 := Tryz.isAgg23
 have z2 := Tryz.sizeOf23
 have hS : Tryz.prog.underlying 27 = some (.struct (Tryz.prog.fieldsOf 27)) := by kernel_rfl
 have hp : Tryz.prog.stoodInHeld 27 = false := by kernel_rfl
 rw [run_eql_struct, show (10000 : Nat) = 9999 + 1 from rfl, run_equalIn_agg w 9999 27 _ _ hS hp]
 simp only [Program.fieldsOf, Tryz.underlying27]
 go_simp
 by_cases h1 : a = c <;> by_cases h2 : b = e <;> simp [h1, h2]
theorem vgd : Tryz.prog.eqGuardType Tryz.prog.depth 27 = false := by kernel_rfl
theorem wl_cells {w : World} {L : List Wl} {g n cap : Nat} (h : Rw w 179 13 (.slice (some ⟨g, 0, none⟩) n cap) n (wls L)) (hn : L.length = n) (j : Nat) (hj : j < L.length) : w.cell? ⟨g, j * 13, none⟩ = some (.int .i64 L[j].id) ∧ (Instr.loadAt 27 (.pointer (some ⟨g, j * 13 + 1, none⟩))).run Tryz.prog w = .ok (.agg #[.int .i64 L[j].x, .int .u64 L[j].y]) w ∧ (Instr.loadAt 29 (.pointer (some ⟨g, j * 13 + 8, none⟩))).run Tryz.prog w = .ok (.agg L[j].r.cells) w := by
 have hc : ∀ k, k < 13 → w.cell? ⟨g, j * 13 + k, none⟩ = (wlL L[j])[k]? := fun k hk => by rw [h.cellAt (j * 13 + k) (by omega), wls_get L j hj k hk]
 refine ⟨hc 0 (by decide), ?_, ?_⟩
 · refine run_loadAt_mid w g (j * 13 + 1) 27 [.int .i64 L[j].x, .int .u64 L[j].y] _ (fun k v hk => ?_) Tryz.underlying27 rfl (by kernel_rfl)
   have hk2 : k < 2 := (List.getElem?_eq_some_iff.1 hk).1
   rw [Nat.add_assoc, hc (1 + k) (by omega), ← hk]
   have : k = 0 ∨ k = 1 := by omega
   rcases this with rfl | rfl <;> rfl
 · refine run_loadAt_mid w g (j * 13 + 8) 29 L[j].r.cs _ (fun k v hk => ?_) Tryz.underlying29 rfl (by kernel_rfl)
   have hk2 : k < 5 := (List.getElem?_eq_some_iff.1 hk).1
   rw [Nat.add_assoc, hc (8 + k) (by omega), ← hk]
   have : k = 0 ∨ k = 1 ∨ k = 2 ∨ k = 3 ∨ k = 4 := by omega
   rcases this with rfl | rfl | rfl | rfl | rfl <;> rfl

set_option maxHeartbeats 2000000 in
set_option maxRecDepth 100000 in
theorem known_any (d base : Nat) (S : Sk) (s to : Rf) (L : List Wl) (v : Value) (hL : L.length ≤ 1000000) (r : Rf) (w : World) (X : DkAt w d base S s to L v) : Calls Tryz.prog 93 #[.pointer (some ⟨d, 0, none⟩), .agg r.cells] w fun e' w' => e' = .returned (.int .i64 (knV L (r.id, S.wl, S.wb))) ∧ Below w.heap.size w w' := by
 have mixed : Tryz.prog.follows .mixedOrders = true := by kernel_rfl
 have b1 := (Below.refl w.heap.size w).alloc (Nat.le_refl _) (.cells r.cells 29)
 have RB := hide (IsB.new w r.cells 29)
 have X1 := hide (X.below b1)
 have B := hide b1
 clear b1 X
 obtain ⟨va, vc, hsh, -, -⟩ := X1.out.row.shape
 subst hsh
 generalize hn : L.length = n at *
 replace hn := hide hn
 go_enter Tryz.func93, Tryz.ntmps93
 go_wp2_with fail
 generalize (w.alloc (.cells r.cells 29)) = W1 at *
 have R0 : Hid (Rw W1 179 13 (.slice va n vc) n (wls L)) := by have h := X1.out.row; rw [hn.out] at h; exact h
 obtain ⟨H, hH⟩ : ∃ H, w.heap.size = H := ⟨_, rfl⟩
 rw [hH] at RB ⊢
 have hHW : Hid (w.heap.size ≤ W1.heap.size) := B.out.size
 go_loopw [5] (fun i wr => ∃ j : Nat, j ≤ n ∧ i = .int .i64 (j : Int) ∧ Hid (∀ q (hq : q < L.length), q < j → L[q].pr.1 ≠ (r.id, S.wl, S.wb)) ∧ Hid (Below W1.heap.size W1 wr)) (fun i _ => n - (intOf i).toNat)
 case atStart => exact ⟨0, by omega, rfl, fun q hq c => by omega, Below.refl _ _⟩
 case round =>
   obtain ⟨j, hj, rfl, HN, BX⟩ := hrel
   have I1 := hide (X1.out.blk.below BX.out)
   have y21 := c_v I1.out
   by_cases hlt : j < n
   rotate_left
   · obtain rfl : j = n := by omega
     have d1 : decide ((j : Int) < j) = false := by simp
     have HK : knV L (r.id, S.wl, S.wb) = -1 := by
       have : knI L (r.id, S.wl, S.wb) = none := by
         unfold knI
         rw [List.findIdx?_eq_none_iff]
         intro x hx
         obtain ⟨q, hq, rfl⟩ := List.mem_iff_getElem.1 hx
         simpa using HN.out q hq (by rw [← hn.out]; exact hq)
       unfold knV
       rw [this]
     replace HK := hide HK
     go_wp2
     go_ret
     exact ⟨congrArg (fun z => Ending.returned (Value.int .i64 z)) HK.out.symm, B.out.trans (BX.out.mono hHW.out)⟩
   have hjl : j < L.length := by rw [hn.out]; exact hlt
   have hlt2 : (j : Int) < n := by omega
   obtain ⟨g, cap, ev, -, -, hgl⟩ := R0.out.form (by omega)
   injection ev with ev el ec
   clear el
   subst ev ec
   have hrow := (R0.out.below BX.out).below ((Below.refl _ _).drew)
   obtain ⟨c0, c1, -⟩ := wl_cells hrow hn.out j hjl
   have CD := hide (And.intro c0 c1)
   have ID := hide (I1.out.below ((Below.refl _ _).drew))
   have RD := hide ((RB.out.below BX.out).below ((Below.refl _ _).drew))
   have HQ : Hid (L[j].pr.1 = (L[j].id, L[j].x, L[j].y)) := rfl
   have HJ : Hid (∀ z, L[j] = z → z.pr.1 ≠ (r.id, S.wl, S.wb) → ∀ q (hq : q < L.length), q < j + 1 → L[q].pr.1 ≠ (r.id, S.wl, S.wb)) := by
     intro z hz hne q hq hqj
     rcases Nat.lt_or_ge q j with h | h
     · exact HN.out q hq h
     · obtain rfl : q = j := by omega
       rw [hz]; exact hne
   have HY : Hid (L[j].pr.1 = (r.id, S.wl, S.wb) → knV L (r.id, S.wl, S.wb) = (j : Int)) := by
     intro he
     have : knI L (r.id, S.wl, S.wb) = some j := by
       unfold knI
       rw [List.findIdx?_eq_some_iff_getElem]
       exact ⟨hjl, by simpa using he, fun q hq => by simpa using HN.out q (by omega) hq⟩
     unfold knV
     rw [this]
   replace HJ := hide (HJ.out L[j] rfl)
   generalize L[j] = z at *
   clear hrow c0 c1 HN I1 hjl
   by_cases h1 : z.id = r.id
   rotate_left
   · have e1 : (z.id == r.id) = false := by simpa using h1
     have HN2 := hide (HJ.out (by rw [HQ.out]; simp [h1]))
     clear HJ HY HQ
     have BXD := hide BX.out.drew
     go_wp2_with fail
     refine regionL 26 (fun w' => IsB w' d (dkL S s to (.slice (some ⟨g, 0, none⟩) n vc)).toArray 105 ∧ IsB w' H r.cells 29 ∧ w'.cell? ⟨g, j * 13, none⟩ = some (.int .i64 z.id) ∧ (Instr.loadAt 27 (.pointer (some ⟨g, j * 13 + 1, none⟩))).run Tryz.prog w' = .ok (.agg #[.int .i64 (z.x), .int .u64 (z.y)]) w') mixed ⟨ID.out, RD.out, CD.out.1, CD.out.2⟩ (fun hHeld => ?_)
     generalize wr.drew = WD at *
     refine pkA (v := ?_) 0 (some 15) rfl rfl ?_ (by assumption) ?_
     rotate_left
     · intro w'
       go_simp
       try with_reducible rfl
     try simp only [Act.put, zqa, zqb, zqc]
     refine pkA (v := ?_) 1 (some 16) rfl rfl ?_ (by assumption) ?_
     rotate_left
     · intro w'
       go_simp
       try with_reducible rfl
     try simp only [Act.put, zqa, zqb, zqc]
     refine pkA (v := ?_) 2 (some 17) rfl rfl ?_ (by assumption) ?_
     rotate_left
     · intro w'
       go_simp
       try with_reducible rfl
     try simp only [Act.put, zqa, zqb, zqc]
     refine pkL (v := ?_) 3 (some 18) rfl rfl ?_ (by assumption) ?_
     rotate_left
     · intro w' hSw
       obtain ⟨q0, q1, q2, q3⟩ := hSw; have z0 := ld_id q1; have z21 := c_v q0
       go_simp
       try with_reducible rfl
     try simp only [Act.put, zqa, zqb, zqc]
     refine pkA (v := ?_) 4 (some 19) rfl rfl ?_ (by assumption) ?_
     rotate_left
     · intro w'
       go_simp
       try with_reducible rfl
     try simp only [Act.put, zqa, zqb, zqc]
     refine pkA (v := ?_) 5 (some 20) rfl rfl ?_ (by assumption) ?_
     rotate_left
     · intro w'
       go_simp
       try with_reducible rfl
     try simp only [Act.put, zqa, zqb, zqc]
     refine pkA (v := ?_) 6 (some 21) rfl rfl ?_ (by assumption) ?_
     rotate_left
     · intro w'
       go_simp
       try with_reducible rfl
     try simp only [Act.put, zqa, zqb, zqc]
     refine pkL (v := ?_) 7 (some 22) rfl rfl ?_ (by assumption) ?_
     rotate_left
     · intro w' hSw
       obtain ⟨q0, q1, q2, q3⟩ := hSw; have z0 := ld_id q1; have z21 := c_v q0
       go_simp
       try with_reducible rfl
     try simp only [Act.put, zqa, zqb, zqc]
     refine pkA (v := ?_) 8 (some 23) rfl rfl ?_ (by assumption) ?_
     rotate_left
     · intro w'
       go_simp
       try with_reducible rfl
     try simp only [Act.put, zqa, zqb, zqc]
     refine pkL (v := ?_) 9 (some 24) rfl rfl ?_ (by assumption) ?_
     rotate_left
     · intro w' hSw
       obtain ⟨q0, q1, q2, q3⟩ := hSw; have z0 := ld_id q1; have z21 := c_v q0
       go_simp
       try with_reducible rfl
     try simp only [Act.put, zqa, zqb, zqc]
     refine pkA (v := ?_) 10 (some 25) rfl rfl ?_ (by assumption) ?_
     rotate_left
     · intro w'
       go_simp
       try with_reducible rfl
     try simp only [Act.put, zqa, zqb, zqc]
     refine pkA (v := ?_) 11 (some 26) rfl rfl ?_ (by assumption) ?_
     rotate_left
     · intro w'
       go_simp
       try with_reducible rfl
     try simp only [Act.put, zqa, zqb, zqc]
     refine pickN 12 (some 27) rfl rfl (by kernel_rfl) (by kernel_rfl) (by kernel_rfl) (by decide) (fun _ _ _ h => h) (by rfl) (by assumption) ?_
     try simp only [Act.put, zqa, zqb, zqc]
     refine pickN 13 (some 28) rfl rfl (by kernel_rfl) (by kernel_rfl) (by kernel_rfl) (by decide) (fun _ _ _ h => h) (by rfl) (by assumption) ?_
     try simp only [Act.put, zqa, zqb, zqc]
     refine pickN 14 (some 29) rfl rfl (by kernel_rfl) (by kernel_rfl) (by kernel_rfl) (by decide) (fun _ _ _ h => h) (by rfl) (by assumption) ?_
     try simp only [Act.put, zqa, zqb, zqc]
     refine pickN 15 (some 30) rfl rfl (by kernel_rfl) (by kernel_rfl) (by kernel_rfl) (by decide) (fun _ _ _ h => h) (by rfl) (by assumption) ?_
     try simp only [Act.put, zqa, zqb, zqc]
     refine pickN 16 (some 31) rfl rfl (by kernel_rfl) (by kernel_rfl) (by kernel_rfl) (by decide) (fun _ _ _ h => h) (by rfl) (by assumption) ?_
     try simp only [Act.put, zqa, zqb, zqc]
     refine pickN 17 (some 32) rfl rfl (by kernel_rfl) (by kernel_rfl) (by kernel_rfl) (by decide) (fun _ _ _ h => h) (by rfl) (by assumption) ?_
     try simp only [Act.put, zqa, zqb, zqc]
     refine pickN 18 (some 33) rfl rfl (by kernel_rfl) (by kernel_rfl) (by kernel_rfl) (by decide) (fun _ _ _ h => h) (by rfl) (by assumption) ?_
     try simp only [Act.put, zqa, zqb, zqc]
     refine pickN 19 (some 34) rfl rfl (by kernel_rfl) (by kernel_rfl) (by kernel_rfl) (by decide) (fun _ _ _ h => h) (by rfl) (by assumption) ?_
     try simp only [Act.put, zqa, zqb, zqc]
     refine pickN 20 (some 35) rfl rfl (by kernel_rfl) (by kernel_rfl) (by kernel_rfl) (by decide) (fun _ _ _ h => h) (by rfl) (by assumption) ?_
     try simp only [Act.put, zqa, zqb, zqc]
     refine pickN 21 (some 36) rfl rfl (by kernel_rfl) (by kernel_rfl) (by kernel_rfl) (by decide) (fun _ _ _ h => h) (by rfl) (by assumption) ?_
     try simp only [Act.put, zqa, zqb, zqc]
     refine pickN 22 (some 37) rfl rfl (by kernel_rfl) (by kernel_rfl) (by kernel_rfl) (by decide) (fun _ _ _ h => h) (by rfl) (by assumption) ?_
     try simp only [Act.put, zqa, zqb, zqc]
     refine pickN 23 (some 38) rfl rfl (by kernel_rfl) (by kernel_rfl) (by kernel_rfl) (by decide) (fun _ _ _ h => h) (by rfl) (by assumption) ?_
     try simp only [Act.put, zqa, zqb, zqc]
     refine pickN 24 (some 39) rfl rfl (by kernel_rfl) (by kernel_rfl) (by kernel_rfl) (by decide) (fun _ _ _ h => h) (by rfl) (by assumption) ?_
     try simp only [Act.put, zqa, zqb, zqc]
     refine pkA (v := ?_) 25 (some 40) rfl rfl ?_ (by assumption) ?_
     rotate_left
     · intro w'
       go_simp
       try with_reducible rfl
     try simp only [Act.put, zqa, zqb, zqc]
     refine doneL (by kernel_rfl) ?_ _
     clear hHeld
     go_wp2
     exact ⟨⟨j + 1, by omega, by simp, HN2, BXD⟩, by simp [intOf]; omega⟩
   by_cases h2 : (z.x == S.wl && z.y == S.wb) = true
   rotate_left
   · have e1 : (z.id == r.id) = true := by simpa using h1
     have hb2 : (z.x == S.wl && z.y == S.wb) = false := by simpa using h2
     have EV := hide hb2
     have HN2 := hide (HJ.out (by rw [HQ.out]; intro c; apply h2; injection c with _ c; injection c with c1 c2; simp [c1, c2]))
     clear HJ HY HQ hb2 h2
     have BXD := hide BX.out.drew
     go_wp2_with fail
     refine regionL 26 (fun w' => IsB w' d (dkL S s to (.slice (some ⟨g, 0, none⟩) n vc)).toArray 105 ∧ IsB w' H r.cells 29 ∧ w'.cell? ⟨g, j * 13, none⟩ = some (.int .i64 z.id) ∧ (Instr.loadAt 27 (.pointer (some ⟨g, j * 13 + 1, none⟩))).run Tryz.prog w' = .ok (.agg #[.int .i64 (z.x), .int .u64 (z.y)]) w') mixed ⟨ID.out, RD.out, CD.out.1, CD.out.2⟩ (fun hHeld => ?_)
     generalize wr.drew = WD at *
     refine pkA (v := ?_) 0 (some 15) rfl rfl ?_ (by assumption) ?_
     rotate_left
     · intro w'
       go_simp
       try with_reducible rfl
     try simp only [Act.put, zqa, zqb, zqc]
     refine pkA (v := ?_) 1 (some 16) rfl rfl ?_ (by assumption) ?_
     rotate_left
     · intro w'
       go_simp
       try with_reducible rfl
     try simp only [Act.put, zqa, zqb, zqc]
     refine pkA (v := ?_) 2 (some 17) rfl rfl ?_ (by assumption) ?_
     rotate_left
     · intro w'
       go_simp
       try with_reducible rfl
     try simp only [Act.put, zqa, zqb, zqc]
     refine pkL (v := ?_) 3 (some 18) rfl rfl ?_ (by assumption) ?_
     rotate_left
     · intro w' hSw
       obtain ⟨q0, q1, q2, q3⟩ := hSw; have z0 := ld_id q1; have z21 := c_v q0
       go_simp
       try with_reducible rfl
     try simp only [Act.put, zqa, zqb, zqc]
     refine pkA (v := ?_) 4 (some 19) rfl rfl ?_ (by assumption) ?_
     rotate_left
     · intro w'
       go_simp
       try with_reducible rfl
     try simp only [Act.put, zqa, zqb, zqc]
     refine pkA (v := ?_) 5 (some 20) rfl rfl ?_ (by assumption) ?_
     rotate_left
     · intro w'
       go_simp
       try with_reducible rfl
     try simp only [Act.put, zqa, zqb, zqc]
     refine pkA (v := ?_) 6 (some 21) rfl rfl ?_ (by assumption) ?_
     rotate_left
     · intro w'
       go_simp
       try with_reducible rfl
     try simp only [Act.put, zqa, zqb, zqc]
     refine pkL (v := ?_) 7 (some 22) rfl rfl ?_ (by assumption) ?_
     rotate_left
     · intro w' hSw
       obtain ⟨q0, q1, q2, q3⟩ := hSw; have z0 := ld_id q1; have z21 := c_v q0
       go_simp
       try with_reducible rfl
     try simp only [Act.put, zqa, zqb, zqc]
     refine pkA (v := ?_) 8 (some 23) rfl rfl ?_ (by assumption) ?_
     rotate_left
     · intro w'
       go_simp
       try with_reducible rfl
     try simp only [Act.put, zqa, zqb, zqc]
     refine pkL (v := ?_) 9 (some 24) rfl rfl ?_ (by assumption) ?_
     rotate_left
     · intro w' hSw
       obtain ⟨q0, q1, q2, q3⟩ := hSw; have z0 := ld_id q1; have z21 := c_v q0
       go_simp
       try with_reducible rfl
     try simp only [Act.put, zqa, zqb, zqc]
     refine pkA (v := ?_) 10 (some 25) rfl rfl ?_ (by assumption) ?_
     rotate_left
     · intro w'
       go_simp
       try with_reducible rfl
     try simp only [Act.put, zqa, zqb, zqc]
     refine pkA (v := ?_) 11 (some 26) rfl rfl ?_ (by assumption) ?_
     rotate_left
     · intro w'
       go_simp
       try with_reducible rfl
     try simp only [Act.put, zqa, zqb, zqc]
     refine pkA (v := ?_) 12 (some 27) rfl rfl ?_ (by assumption) ?_
     rotate_left
     · intro w'
       go_simp
       try with_reducible rfl
     try simp only [Act.put, zqa, zqb, zqc]
     refine pkA (v := ?_) 13 (some 28) rfl rfl ?_ (by assumption) ?_
     rotate_left
     · intro w'
       go_simp
       try with_reducible rfl
     try simp only [Act.put, zqa, zqb, zqc]
     refine pkA (v := ?_) 14 (some 29) rfl rfl ?_ (by assumption) ?_
     rotate_left
     · intro w'
       go_simp
       try with_reducible rfl
     try simp only [Act.put, zqa, zqb, zqc]
     refine pkL (v := ?_) 15 (some 30) rfl rfl ?_ (by assumption) ?_
     rotate_left
     · intro w' hSw
       obtain ⟨q0, q1, q2, q3⟩ := hSw; have z0 := ld_id q1; have z21 := c_v q0
       go_simp
       try with_reducible rfl
     try simp only [Act.put, zqa, zqb, zqc]
     refine pkA (v := ?_) 16 (some 31) rfl rfl ?_ (by assumption) ?_
     rotate_left
     · intro w'
       go_simp
       try with_reducible rfl
     try simp only [Act.put, zqa, zqb, zqc]
     refine pkA (v := ?_) 17 (some 32) rfl rfl ?_ (by assumption) ?_
     rotate_left
     · intro w'
       go_simp
       try with_reducible rfl
     try simp only [Act.put, zqa, zqb, zqc]
     refine pkA (v := ?_) 18 (some 33) rfl rfl ?_ (by assumption) ?_
     rotate_left
     · intro w'
       go_simp
       try with_reducible rfl
     try simp only [Act.put, zqa, zqb, zqc]
     refine pkL (v := (.agg #[.int .i64 (z.x), .int .u64 (z.y)])) 19 (some 34) rfl rfl ?_ (by assumption) ?_
     · intro w' hSw
       obtain ⟨q0, q1, q2, q3⟩ := hSw; have z0 := ld_id q1; have z21 := c_v q0
       exact exec_load rfl rfl q3
     try simp only [Act.put, zqa, zqb, zqc]
     refine pkA (v := ?_) 20 (some 35) rfl rfl ?_ (by assumption) ?_
     rotate_left
     · intro w'
       go_simp
       try with_reducible rfl
     try simp only [Act.put, zqa, zqb, zqc]
     refine pkA (v := ?_) 21 (some 36) rfl rfl ?_ (by assumption) ?_
     rotate_left
     · intro w'
       go_simp
       try with_reducible rfl
     try simp only [Act.put, zqa, zqb, zqc]
     refine pkA (v := ?_) 22 (some 37) rfl rfl ?_ (by assumption) ?_
     rotate_left
     · intro w'
       go_simp
       try with_reducible rfl
     try simp only [Act.put, zqa, zqb, zqc]
     refine pkL (v := (.agg #[.int .i64 (S.wl), .int .u64 (S.wb)])) 23 (some 38) rfl rfl ?_ (by assumption) ?_
     · intro w' hSw
       obtain ⟨q0, q1, q2, q3⟩ := hSw; have z0 := ld_id q1; have z21 := c_v q0
       exact exec_load rfl rfl (q_w q0)
     try simp only [Act.put, zqa, zqb, zqc]
     refine pkA (v := .bool false) 24 (some 39) rfl rfl ?_ (by assumption) ?_
     · intro w'
       exact exec_bin vgd rfl rfl rfl (by rw [eqv_w, EV.out])
     try simp only [Act.put, zqa, zqb, zqc]
     refine pkA (v := ?_) 25 (some 40) rfl rfl ?_ (by assumption) ?_
     rotate_left
     · intro w'
       go_simp
       try with_reducible rfl
     try simp only [Act.put, zqa, zqb, zqc]
     refine doneL (by kernel_rfl) ?_ _
     clear hHeld
     go_wp2
     exact ⟨⟨j + 1, by omega, by simp, HN2, BXD⟩, by simp [intOf]; omega⟩
   have e1 : (z.id == r.id) = true := by simpa using h1
   have EV := hide h2
   have HK := HY.out (by rw [HQ.out]; simp only [Bool.and_eq_true, beq_iff_eq] at h2; rw [h1, h2.1, h2.2])
   clear HJ HY HQ h2
   have BXD := hide BX.out.drew
   go_wp2_with fail
   refine regionL 26 (fun w' => IsB w' d (dkL S s to (.slice (some ⟨g, 0, none⟩) n vc)).toArray 105 ∧ IsB w' H r.cells 29 ∧ w'.cell? ⟨g, j * 13, none⟩ = some (.int .i64 z.id) ∧ (Instr.loadAt 27 (.pointer (some ⟨g, j * 13 + 1, none⟩))).run Tryz.prog w' = .ok (.agg #[.int .i64 (z.x), .int .u64 (z.y)]) w') mixed ⟨ID.out, RD.out, CD.out.1, CD.out.2⟩ (fun hHeld => ?_)
   generalize wr.drew = WD at *
   refine pkA (v := ?_) 0 (some 15) rfl rfl ?_ (by assumption) ?_
   rotate_left
   · intro w'
     go_simp
     try with_reducible rfl
   try simp only [Act.put, zqa, zqb, zqc]
   refine pkA (v := ?_) 1 (some 16) rfl rfl ?_ (by assumption) ?_
   rotate_left
   · intro w'
     go_simp
     try with_reducible rfl
   try simp only [Act.put, zqa, zqb, zqc]
   refine pkA (v := ?_) 2 (some 17) rfl rfl ?_ (by assumption) ?_
   rotate_left
   · intro w'
     go_simp
     try with_reducible rfl
   try simp only [Act.put, zqa, zqb, zqc]
   refine pkL (v := ?_) 3 (some 18) rfl rfl ?_ (by assumption) ?_
   rotate_left
   · intro w' hSw
     obtain ⟨q0, q1, q2, q3⟩ := hSw; have z0 := ld_id q1; have z21 := c_v q0
     go_simp
     try with_reducible rfl
   try simp only [Act.put, zqa, zqb, zqc]
   refine pkA (v := ?_) 4 (some 19) rfl rfl ?_ (by assumption) ?_
   rotate_left
   · intro w'
     go_simp
     try with_reducible rfl
   try simp only [Act.put, zqa, zqb, zqc]
   refine pkA (v := ?_) 5 (some 20) rfl rfl ?_ (by assumption) ?_
   rotate_left
   · intro w'
     go_simp
     try with_reducible rfl
   try simp only [Act.put, zqa, zqb, zqc]
   refine pkA (v := ?_) 6 (some 21) rfl rfl ?_ (by assumption) ?_
   rotate_left
   · intro w'
     go_simp
     try with_reducible rfl
   try simp only [Act.put, zqa, zqb, zqc]
   refine pkL (v := ?_) 7 (some 22) rfl rfl ?_ (by assumption) ?_
   rotate_left
   · intro w' hSw
     obtain ⟨q0, q1, q2, q3⟩ := hSw; have z0 := ld_id q1; have z21 := c_v q0
     go_simp
     try with_reducible rfl
   try simp only [Act.put, zqa, zqb, zqc]
   refine pkA (v := ?_) 8 (some 23) rfl rfl ?_ (by assumption) ?_
   rotate_left
   · intro w'
     go_simp
     try with_reducible rfl
   try simp only [Act.put, zqa, zqb, zqc]
   refine pkL (v := ?_) 9 (some 24) rfl rfl ?_ (by assumption) ?_
   rotate_left
   · intro w' hSw
     obtain ⟨q0, q1, q2, q3⟩ := hSw; have z0 := ld_id q1; have z21 := c_v q0
     go_simp
     try with_reducible rfl
   try simp only [Act.put, zqa, zqb, zqc]
   refine pkA (v := ?_) 10 (some 25) rfl rfl ?_ (by assumption) ?_
   rotate_left
   · intro w'
     go_simp
     try with_reducible rfl
   try simp only [Act.put, zqa, zqb, zqc]
   refine pkA (v := ?_) 11 (some 26) rfl rfl ?_ (by assumption) ?_
   rotate_left
   · intro w'
     go_simp
     try with_reducible rfl
   try simp only [Act.put, zqa, zqb, zqc]
   refine pkA (v := ?_) 12 (some 27) rfl rfl ?_ (by assumption) ?_
   rotate_left
   · intro w'
     go_simp
     try with_reducible rfl
   try simp only [Act.put, zqa, zqb, zqc]
   refine pkA (v := ?_) 13 (some 28) rfl rfl ?_ (by assumption) ?_
   rotate_left
   · intro w'
     go_simp
     try with_reducible rfl
   try simp only [Act.put, zqa, zqb, zqc]
   refine pkA (v := ?_) 14 (some 29) rfl rfl ?_ (by assumption) ?_
   rotate_left
   · intro w'
     go_simp
     try with_reducible rfl
   try simp only [Act.put, zqa, zqb, zqc]
   refine pkL (v := ?_) 15 (some 30) rfl rfl ?_ (by assumption) ?_
   rotate_left
   · intro w' hSw
     obtain ⟨q0, q1, q2, q3⟩ := hSw; have z0 := ld_id q1; have z21 := c_v q0
     go_simp
     try with_reducible rfl
   try simp only [Act.put, zqa, zqb, zqc]
   refine pkA (v := ?_) 16 (some 31) rfl rfl ?_ (by assumption) ?_
   rotate_left
   · intro w'
     go_simp
     try with_reducible rfl
   try simp only [Act.put, zqa, zqb, zqc]
   refine pkA (v := ?_) 17 (some 32) rfl rfl ?_ (by assumption) ?_
   rotate_left
   · intro w'
     go_simp
     try with_reducible rfl
   try simp only [Act.put, zqa, zqb, zqc]
   refine pkA (v := ?_) 18 (some 33) rfl rfl ?_ (by assumption) ?_
   rotate_left
   · intro w'
     go_simp
     try with_reducible rfl
   try simp only [Act.put, zqa, zqb, zqc]
   refine pkL (v := (.agg #[.int .i64 (z.x), .int .u64 (z.y)])) 19 (some 34) rfl rfl ?_ (by assumption) ?_
   · intro w' hSw
     obtain ⟨q0, q1, q2, q3⟩ := hSw; have z0 := ld_id q1; have z21 := c_v q0
     exact exec_load rfl rfl q3
   try simp only [Act.put, zqa, zqb, zqc]
   refine pkA (v := ?_) 20 (some 35) rfl rfl ?_ (by assumption) ?_
   rotate_left
   · intro w'
     go_simp
     try with_reducible rfl
   try simp only [Act.put, zqa, zqb, zqc]
   refine pkA (v := ?_) 21 (some 36) rfl rfl ?_ (by assumption) ?_
   rotate_left
   · intro w'
     go_simp
     try with_reducible rfl
   try simp only [Act.put, zqa, zqb, zqc]
   refine pkA (v := ?_) 22 (some 37) rfl rfl ?_ (by assumption) ?_
   rotate_left
   · intro w'
     go_simp
     try with_reducible rfl
   try simp only [Act.put, zqa, zqb, zqc]
   refine pkL (v := (.agg #[.int .i64 (S.wl), .int .u64 (S.wb)])) 23 (some 38) rfl rfl ?_ (by assumption) ?_
   · intro w' hSw
     obtain ⟨q0, q1, q2, q3⟩ := hSw; have z0 := ld_id q1; have z21 := c_v q0
     exact exec_load rfl rfl (q_w q0)
   try simp only [Act.put, zqa, zqb, zqc]
   refine pkA (v := .bool true) 24 (some 39) rfl rfl ?_ (by assumption) ?_
   · intro w'
     exact exec_bin vgd rfl rfl rfl (by rw [eqv_w, EV.out])
   try simp only [Act.put, zqa, zqb, zqc]
   refine pkA (v := ?_) 25 (some 40) rfl rfl ?_ (by assumption) ?_
   rotate_left
   · intro w'
     go_simp
     try with_reducible rfl
   try simp only [Act.put, zqa, zqb, zqc]
   refine doneL (by kernel_rfl) ?_ _
   clear hHeld
   replace HK := hide HK
   go_wp2
   go_ret
   exact ⟨congrArg (fun z => Ending.returned (Value.int .i64 z)) HK.out.symm, B.out.trans (BXD.out.mono hHW.out)⟩

end Go.Proofs.YtokehogcenjefaaGreatDoor
