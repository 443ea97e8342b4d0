/- The document's looked. -/
import Derived.Test.YtokehogcenjefaaGreatDoorDE
namespace Go.Proofs.YtokehogcenjefaaGreatDoor
open Go.RowKit Go.Maps Go.ChangeMaps

/-- What the document's calls ask of a state. -/
structure Pre (S : Sk) (L : List Wl) : Prop where
 hd0 : ∃ h, S.hd = ⟨0, 1, 0, h, 0⟩
 hrt : rt S.wl S.wb = true
 hwb : 0 ≤ S.wb
 h0 : 0 ≤ S.n
 h1 : S.n ≤ 64
 hL : L.length ≤ 1000000
 z : S.ov = false → S.e = 0 ∧ S.rl = zr ∧ S.rr = zr ∧ S.fd = false
/-- The will that is kept. -/
def Sk.wil (S : Sk) (r : Rf) (a : An) : Wl := ⟨r.id, S.wl, S.wb, a.l, a.r⟩
theorem passed_lk {S : Sk} {x : Prop} (h : S.passed.lk = true) (h2 : S.n ≠ 64) : x := by
 unfold Sk.passed at h
 rw [if_neg h2] at h
 cases h

set_option maxHeartbeats 2000000 in
set_option maxRecDepth 100000 in
theorem looked_1 (d base : Nat) (S : Sk) (s : Rf) (L : List Wl) (a : An) (hk : a.k = 1) (hl : S.lk = true) (P : Pre S L) (w : World) (X : Dk w d base S s L) : Calls Tryz.prog 62 #[.pointer (some ⟨d, 0, none⟩), .agg (anL a).toArray] w fun e' w' => e' = .returned (.tuple #[]) ∧ Dk w' d base ((S.stand S.ah).right (L.map Wl.pr) a.r) s L ∧ Kd base w w' := by
 have b1 := (Below.refl w.heap.size w).alloc (Nat.le_refl _) (.cells (anL a).toArray 62)
 have A := hide (IsB.new w (anL a).toArray 62)
 have y0 : (w.alloc (.cells (anL a).toArray 62)).cell? ⟨w.heap.size, 0, none⟩ = some (.int .i64 a.k) := cl_ak A.out
 obtain ⟨to, v, hto, X0⟩ := X
 have XX := hide (X0.below b1)
 have KK : Hid (Kd base w (w.alloc (.cells (anL a).toArray 62))) := Kd.of_below b1
 clear b1 X0
 rw [hk] at y0
 clear hk
 obtain rfl := hto hl
 obtain ⟨w2, hs2, I2, k2⟩ := u_at XX.out.blk S.ah
 obtain ⟨w3, hs3, I3, k3⟩ := u_lk I2 false
 have T := XX.out.turn (S' := S.stand S.ah) (k2.tr k3) I3
 have HS2 := hide hs2
 have HS3 := hide hs3
 have LT := hide (q_to XX.out.blk)
 have hne : w.heap.size ∉ [d] := by simp only [List.mem_singleton]; exact fun e => ne_ty A.out XX.out.blk (by decide) e
 have A3 := hide (A.out.kp (k2.tr k3) hne)
 have LR := hide (ld_ar A3.out)
 have CT := hide (dright_any d base (S.stand S.ah) s L S.ah v (fun c => Bool.noConfusion (show false = true from c)) P.hd0 P.hrt P.hwb P.h0 P.h1 P.hL a.r w3 T.1)
 have K3 := hide (KK.out.tr T.2)
 clear hs2 hs3 I2 I3 k2 k3 T hne XX KK A hto P
 go_enter Tryz.func62, Tryz.ntmps62
 go_wp2_with (first | (focus ((with_reducible refine wpList_load_w ?_ 29 (.tmp 14) ?_ ?_ LT.out ?_); rotate_left; rfl; rfl; rotate_left; rfl)) | (focus ((with_reducible refine wpList_store_w ?_ 29 (.tmp 17) (.tmp 15) ?_ ?_ ?_ HS2.out ?_); rotate_left; rfl; rfl; rfl; rotate_left; rfl)) | (focus ((with_reducible refine wpList_store_w ?_ 4 (.tmp 19) (.const (.bool false)) ?_ ?_ ?_ HS3.out ?_); rotate_left; rfl; rfl; rfl; rotate_left; rfl)) | (focus ((with_reducible refine wpList_load_w ?_ 29 (.tmp 21) ?_ ?_ LR.out ?_); rotate_left; rfl; rfl; rotate_left; rfl)))
 refine CT.out.mono ?_
 rintro e w9 ⟨rfl, X9, K9⟩
 have F6 := hide X9
 have K7 := hide (K3.out.tr K9)
 clear X9 K9 CT
 try go_wp2
 refine bodyPost_end (results_none rfl _ _ _) rfl ?_
 exact ⟨rfl, F6.out, K7.out⟩

set_option maxHeartbeats 2000000 in
set_option maxRecDepth 100000 in
theorem looked_3no (d base : Nat) (S : Sk) (s : Rf) (L : List Wl) (a : An) (hk : a.k = 3) (hl : S.lk = true) (P : Pre S L) (hn : S.n = 64) (w : World) (X : Dk w d base S s L) : Calls Tryz.prog 62 #[.pointer (some ⟨d, 0, none⟩), .agg (anL a).toArray] w fun e' w' => e' = .returned (.tuple #[]) ∧ Dk w' d base (S.passed) s (keepL L (S.wil S.ah a)) ∧ Kd base w w' := by
 have b1 := (Below.refl w.heap.size w).alloc (Nat.le_refl _) (.cells (anL a).toArray 62)
 have A := hide (IsB.new w (anL a).toArray 62)
 have y0 : (w.alloc (.cells (anL a).toArray 62)).cell? ⟨w.heap.size, 0, none⟩ = some (.int .i64 a.k) := cl_ak A.out
 obtain ⟨to, v, hto, X0⟩ := X
 have XX := hide (X0.below b1)
 have KK : Hid (Kd base w (w.alloc (.cells (anL a).toArray 62))) := Kd.of_below b1
 clear b1 X0
 rw [hk] at y0
 clear hk
 obtain rfl := hto hl
 have mixed : Tryz.prog.follows .mixedOrders = true := by kernel_rfl
 have HP : Hid (S.passed = S.busy) := by show _ = _; unfold Sk.passed; rw [if_pos hn]
 go_enter Tryz.func62, Tryz.ntmps62
 go_wp2_with fail
 generalize (w.alloc (.cells (anL a).toArray 62)) = WA at *
 obtain ⟨H, hH⟩ : ∃ H, w.heap.size = H := ⟨_, rfl⟩
 rw [hH] at A y0 ⊢
 clear hH y0
 have XD := hide (XX.out.below ((Below.refl _ _).drew))
 have AD := hide (A.out.below ((Below.refl _ _).drew))
 have KD := hide (KK.out.bel ((Below.refl _ _).drew))
 clear XX A KK
 refine regionL 6 (fun w' => IsB w' d (dkL S s S.ah v).toArray 105 ∧ IsB w' H (anL a).toArray 62) mixed ⟨XD.out.blk, AD.out⟩ (fun hHeld => ?_)
 generalize WA.drew = WD at *
 refine pkA (v := ?_) 0 (some 26) rfl rfl ?_ (by assumption) ?_
 rotate_left
 · intro w'
   go_simp
   try with_reducible rfl
 try simp only [Act.put, zqa, zqb, zqc]
 refine pkA (v := ?_) 1 (some 27) rfl rfl ?_ (by assumption) ?_
 rotate_left
 · intro w'
   go_simp
   try with_reducible rfl
 try simp only [Act.put, zqa, zqb, zqc]
 refine pkA (v := ?_) 2 (some 28) rfl rfl ?_ (by assumption) ?_
 rotate_left
 · intro w'
   go_simp
   try with_reducible rfl
 try simp only [Act.put, zqa, zqb, zqc]
 refine pkA (v := ?_) 3 (some 29) rfl rfl ?_ (by assumption) ?_
 rotate_left
 · intro w'
   go_simp
   try with_reducible rfl
 try simp only [Act.put, zqa, zqb, zqc]
 refine pkT (v := .agg S.ah.cells) 4 (some 30) rfl rfl ?_ (by assumption) ?_
 · intro w' hSw
   obtain ⟨q0, q1⟩ := hSw
   exact exec_load rfl rfl (q_to q0)
 try simp only [Act.put, zqa, zqb, zqc]
 refine pkT (v := .agg (anL a).toArray) 5 (some 31) rfl rfl ?_ (by assumption) ?_
 · intro w' hSw
   obtain ⟨q0, q1⟩ := hSw
   exact exec_load rfl rfl (ld_ans q1)
 try simp only [Act.put, zqa, zqb, zqc]
 refine lateL (i := 6) (by kernel_rfl) rfl (by decide) (by kernel_rfl) (fun K hK => ?_)
 go_simp
 refine (keep_any2 d base S s L P.hL S.ah a WD ⟨S.ah, v, fun _ => rfl, XD.out⟩).mono ?_
 rintro e w4 ⟨rfl, X4, K4⟩
 have D4 := hide X4
 have KK4 := hide (KD.out.tr K4)
 clear X4 K4
 refine hK.out _ _ ?_
 clear hK K
 try simp only [Act.put, zqa, zqb, zqc]
 refine doneL (by kernel_rfl) ?_ _
 clear hHeld
 clear XD AD KD
 have CT := hide (counts_no d base S s _ hn w4 D4.out)
 clear P hn
 go_wp2_with fail
 refine CT.out.mono ?_
 rintro e w9 ⟨rfl, X9, K9⟩
 have F6 : Hid (Dk w9 d base S.passed s (keepL L (S.wil S.ah a))) := by show Dk _ _ _ _ _ _; rw [HP.out]; exact X9
 have K7 := hide (KK4.out.tr K9)
 clear X9 K9 CT
 try go_wp2
 refine bodyPost_end (results_none rfl _ _ _) rfl ?_
 exact ⟨rfl, F6.out, K7.out⟩

set_option maxHeartbeats 2000000 in
set_option maxRecDepth 100000 in
theorem looked_3yes (d base : Nat) (S : Sk) (s : Rf) (L : List Wl) (a : An) (hk : a.k = 3) (hl : S.lk = true) (hov : S.ov = false) (P : Pre S L) (hn : S.n < 64) (w : World) (X : Dk w d base S s L) : Calls Tryz.prog 62 #[.pointer (some ⟨d, 0, none⟩), .agg (anL a).toArray] w fun e' w' => e' = .returned (.tuple #[]) ∧ Dk w' d base (S.passed) s (keepL L (S.wil S.ah a)) ∧ Kd base w w' := by
 have b1 := (Below.refl w.heap.size w).alloc (Nat.le_refl _) (.cells (anL a).toArray 62)
 have A := hide (IsB.new w (anL a).toArray 62)
 have y0 : (w.alloc (.cells (anL a).toArray 62)).cell? ⟨w.heap.size, 0, none⟩ = some (.int .i64 a.k) := cl_ak A.out
 obtain ⟨to, v, hto, X0⟩ := X
 have XX := hide (X0.below b1)
 have KK : Hid (Kd base w (w.alloc (.cells (anL a).toArray 62))) := Kd.of_below b1
 clear b1 X0
 rw [hk] at y0
 clear hk
 obtain rfl := hto hl
 have mixed : Tryz.prog.follows .mixedOrders = true := by kernel_rfl
 have HP : Hid (∀ to v, dkL { S with n := S.n + 1, lk := false } s to v = dkL S.passed s to v) := by
   intro to v
   obtain ⟨z1, z2, z3, z4⟩ := P.z hov
   unfold Sk.passed
   rw [if_neg (by omega)]
   simp only [dkL, hov, z1, z2, z3, z4]
 have hn64 : S.n ≠ 64 := by omega
 go_enter Tryz.func62, Tryz.ntmps62
 go_wp2_with fail
 generalize (w.alloc (.cells (anL a).toArray 62)) = WA at *
 obtain ⟨H, hH⟩ : ∃ H, w.heap.size = H := ⟨_, rfl⟩
 rw [hH] at A y0 ⊢
 clear hH y0
 have XD := hide (XX.out.below ((Below.refl _ _).drew))
 have AD := hide (A.out.below ((Below.refl _ _).drew))
 have KD := hide (KK.out.bel ((Below.refl _ _).drew))
 clear XX A KK
 refine regionL 6 (fun w' => IsB w' d (dkL S s S.ah v).toArray 105 ∧ IsB w' H (anL a).toArray 62) mixed ⟨XD.out.blk, AD.out⟩ (fun hHeld => ?_)
 generalize WA.drew = WD at *
 refine pkA (v := ?_) 0 (some 26) rfl rfl ?_ (by assumption) ?_
 rotate_left
 · intro w'
   go_simp
   try with_reducible rfl
 try simp only [Act.put, zqa, zqb, zqc]
 refine pkA (v := ?_) 1 (some 27) rfl rfl ?_ (by assumption) ?_
 rotate_left
 · intro w'
   go_simp
   try with_reducible rfl
 try simp only [Act.put, zqa, zqb, zqc]
 refine pkA (v := ?_) 2 (some 28) rfl rfl ?_ (by assumption) ?_
 rotate_left
 · intro w'
   go_simp
   try with_reducible rfl
 try simp only [Act.put, zqa, zqb, zqc]
 refine pkA (v := ?_) 3 (some 29) rfl rfl ?_ (by assumption) ?_
 rotate_left
 · intro w'
   go_simp
   try with_reducible rfl
 try simp only [Act.put, zqa, zqb, zqc]
 refine pkT (v := .agg S.ah.cells) 4 (some 30) rfl rfl ?_ (by assumption) ?_
 · intro w' hSw
   obtain ⟨q0, q1⟩ := hSw
   exact exec_load rfl rfl (q_to q0)
 try simp only [Act.put, zqa, zqb, zqc]
 refine pkT (v := .agg (anL a).toArray) 5 (some 31) rfl rfl ?_ (by assumption) ?_
 · intro w' hSw
   obtain ⟨q0, q1⟩ := hSw
   exact exec_load rfl rfl (ld_ans q1)
 try simp only [Act.put, zqa, zqb, zqc]
 refine lateL (i := 6) (by kernel_rfl) rfl (by decide) (by kernel_rfl) (fun K hK => ?_)
 go_simp
 refine (keep_any2 d base S s L P.hL S.ah a WD ⟨S.ah, v, fun _ => rfl, XD.out⟩).mono ?_
 rintro e w4 ⟨rfl, X4, K4⟩
 have D4 := hide X4
 have KK4 := hide (KD.out.tr K4)
 clear X4 K4
 refine hK.out _ _ ?_
 clear hK K
 try simp only [Act.put, zqa, zqb, zqc]
 refine doneL (by kernel_rfl) ?_ _
 clear hHeld
 clear XD AD KD
 have CT := hide (counts_yes d base S s _ P.h0 hn w4 D4.out)
 clear P
 go_wp2_with fail
 refine CT.out.mono ?_
 rintro e w8 ⟨rfl, ⟨to8, v8, -, X8⟩, K8⟩
 obtain ⟨w9, hs9, I9, k9⟩ := u_lk X8.blk false
 have T := X8.turn (S' := S.passed) k9 ((HP.out to8 v8) ▸ I9)
 have F6 : Hid (Dk w9 d base S.passed s (keepL L (S.wil S.ah a))) := ⟨to8, v8, fun c => passed_lk c hn64, T.1⟩
 have K7 := hide ((KK4.out.tr K8).tr T.2)
 have HS9 := hide hs9
 clear X8 K8 hs9 I9 k9 T CT
 go_wp2_with (first | (focus ((with_reducible refine wpList_store_w ?_ 4 (.tmp 37) (.const (.bool false)) ?_ ?_ ?_ HS9.out ?_); rotate_left; rfl; rfl; rfl; rotate_left; rfl)))
 try go_wp2
 refine bodyPost_end (results_none rfl _ _ _) rfl ?_
 exact ⟨rfl, F6.out, K7.out⟩

set_option maxHeartbeats 2000000 in
set_option maxRecDepth 100000 in
theorem looked_no (d base : Nat) (S : Sk) (s : Rf) (L : List Wl) (a : An) (hk1 : ¬a.k = 1) (hk3 : ¬a.k = 3) (P : Pre S L) (w : World) (X : Dk w d base S s L) : Calls Tryz.prog 62 #[.pointer (some ⟨d, 0, none⟩), .agg (anL a).toArray] w fun e' w' => e' = .returned (.tuple #[]) ∧ Dk w' d base (S.begin) s L ∧ Kd base w w' := by
 have b1 := (Below.refl w.heap.size w).alloc (Nat.le_refl _) (.cells (anL a).toArray 62)
 have A := hide (IsB.new w (anL a).toArray 62)
 have y0 : (w.alloc (.cells (anL a).toArray 62)).cell? ⟨w.heap.size, 0, none⟩ = some (.int .i64 a.k) := cl_ak A.out
 obtain ⟨to, v, hto, X0⟩ := X
 have XX := hide (X0.below b1)
 have KK : Hid (Kd base w (w.alloc (.cells (anL a).toArray 62))) := Kd.of_below b1
 clear b1 X0
 have e1 : (a.k == 1) = false := by simpa using hk1
 have e3 : (a.k == 3) = false := by simpa using hk3
 have CT := hide (dagain_any d base S s L P.h0 P.h1 P.hd0 _ ⟨to, v, hto, XX.out⟩)
 generalize a.k = ak at *
 clear XX P hto
 go_enter Tryz.func62, Tryz.ntmps62
 go_wp2_with fail
 refine CT.out.mono ?_
 rintro e w9 ⟨rfl, X9, K9⟩
 have F6 := hide X9
 have K7 := hide (KK.out.tr K9)
 clear X9 K9 CT
 try go_wp2
 refine bodyPost_end (results_none rfl _ _ _) rfl ?_
 exact ⟨rfl, F6.out, K7.out⟩

/-- The wills behind an answer. -/
def Sk.tellL (S : Sk) (L : List Wl) (a : An) : List Wl := if S.ov = true then L else if a.k = 3 then keepL L (S.wil S.to a) else L
theorem looked_any (d base : Nat) (S : Sk) (s : Rf) (L : List Wl) (a : An) (hl : S.lk = true) (hov : S.ov = false) (P : Pre S L) (w : World) (X : Dk w d base S s L) : Calls Tryz.prog 62 #[.pointer (some ⟨d, 0, none⟩), .agg (anL a).toArray] w fun e' w' => e' = .returned (.tuple #[]) ∧ Dk w' d base (S.hearA (L.map Wl.pr) a).1 s (S.tellL L a) ∧ Kd base w w' := by
 have e : S.tellL L a = if a.k = 3 then keepL L (S.wil S.ah a) else L := by
   unfold Sk.tellL Sk.to
   rw [if_neg (by rw [hov]; decide), if_pos hl]
 rw [e]
 clear e
 unfold Sk.hearA
 by_cases hk : a.k = 1
 · rw [if_pos hk, if_neg (by omega)]; exact looked_1 d base S s L a hk hl P w X
 · rw [if_neg hk]
   by_cases hk3 : a.k = 3
   · rw [if_pos hk3, if_pos hk3]
     by_cases hn : S.n = 64
     · exact looked_3no d base S s L a hk3 hl P hn w X
     · exact looked_3yes d base S s L a hk3 hl hov P (by have := P.h1; omega) w X
   · rw [if_neg hk3, if_neg hk3]; exact looked_no d base S s L a hk hk3 P w X

end Go.Proofs.YtokehogcenjefaaGreatDoor
