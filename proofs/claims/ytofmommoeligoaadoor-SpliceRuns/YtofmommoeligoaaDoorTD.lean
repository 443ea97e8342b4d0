/- stepBack, look, the answer to Right. -/
import Derived.Test.YtofmommoeligoaaDoorTC
import Derived.Deep.WholeRow
namespace Go.Proofs.YtofmommoeligoaaDoor
open Go.RowKit Go.Maps Go.ChangeMaps

/-- It was not let lock. -/
def Sp.stepBack (S : Sp) (a : An) : Sp := if a.k = 2 ∨ a.k = 3 then (if S.hl = true then { S with lf := S.la, la := zr, hl := false, pl := 10 } else S.fin 131 zr zr) else S.wait

set_option maxHeartbeats 2000000 in
set_option maxRecDepth 100000 in
theorem back_end2 (b : Nat) (S : Sp) (t : Option Th) (a : An) (hk : a.k = 2) (hh : S.hl = false) (w : World) (X : SpAt w b S t) : Calls Tryd.prog 38 #[.pointer (some ⟨b, 0, none⟩), .agg (anL a).toArray] w fun e' w' => e' = .returned (.tuple #[]) ∧ SpAt w' b (S.fin 131 zr zr) t ∧ Kp [b] w w' := by
  have b1 := (Below.refl w.heap.size w).alloc (Nat.le_refl _) (.cells (anL a).toArray 57)
  have AB := hide (IsB.new w (anL a).toArray 57)
  have X1 := hide (X.below b1)
  have KZ : Hid (Kp [b] w (w.alloc (.cells (anL a).toArray 57))) := Kp.of_below b1
  clear b1 X
  have y0 : (w.alloc (.cells (anL a).toArray 57)).cell? ⟨w.heap.size, 0, none⟩ = some (.int .i64 a.k) := cl_ak AB.out
  rw [hk] at y0
  obtain ⟨v, I, T⟩ := X1.out
  have y26 := cl_has I
  rw [hh] at y26
  clear I T hk hh
  go_enter Tryd.func38, Tryd.ntmps38
  go_wp2_with fail
  refine (end_any b S t 131 zr zr _ X1.out).mono ?_
  rintro e' w6 ⟨rfl, X6, K6⟩
  have F6 := hide X6
  have K7 := hide (KZ.out.tr K6)
  clear X6 K6
  go_wp2
  refine bodyPost_ret (results_none rfl _ _ _) rfl ?_
  exact ⟨rfl, F6.out, K7.out⟩

set_option maxHeartbeats 2000000 in
set_option maxRecDepth 100000 in
theorem back_last2 (b : Nat) (S : Sp) (t : Option Th) (a : An) (hk : a.k = 2) (hh : S.hl = true) (w : World) (X : SpAt w b S t) : Calls Tryd.prog 38 #[.pointer (some ⟨b, 0, none⟩), .agg (anL a).toArray] w fun e' w' => e' = .returned (.tuple #[]) ∧ SpAt w' b { S with lf := S.la, la := zr, hl := false, pl := 10 } t ∧ Kp [b] w w' := by
  have b1 := (Below.refl w.heap.size w).alloc (Nat.le_refl _) (.cells (anL a).toArray 57)
  have AB := hide (IsB.new w (anL a).toArray 57)
  have X1 := hide (X.below b1)
  have KZ : Hid (Kp [b] w (w.alloc (.cells (anL a).toArray 57))) := Kp.of_below b1
  clear b1 X
  have y0 : (w.alloc (.cells (anL a).toArray 57)).cell? ⟨w.heap.size, 0, none⟩ = some (.int .i64 a.k) := cl_ak AB.out
  rw [hk] at y0
  obtain ⟨v, I, T⟩ := X1.out
  have y26 := cl_has I
  rw [hh] at y26
  have LL := hide (ld_last I)
  obtain ⟨w2, hs2, I2, k2⟩ := st_left I S.la
  obtain ⟨w3, hs3, I3, k3⟩ := st_last I2 zr
  obtain ⟨w4, hs4, I4, k4⟩ := st_has I3 false
  have X4 : Hid (SpAt w4 b { S with lf := S.la, la := zr, hl := false } t) := ⟨v, I4, T.turn I (k2.tr (k3.tr k4))⟩
  replace KZ := hide (KZ.out.tr (k2.tr (k3.tr k4)))
  have HS2 := hide hs2
  have HS3 := hide hs3
  have HS4 := hide hs4
  clear hs2 hs3 hs4 I2 I3 I4 k2 k3 k4 T I hk hh X1
  go_enter Tryd.func38, Tryd.ntmps38
  go_wp2_with (first | (focus ((with_reducible refine wpList_load_w ?_ 29 (.tmp 30) ?_ ?_ LL.out ?_); rotate_left; rfl; rfl; rotate_left; rfl)) | (focus ((with_reducible refine wpList_store_w ?_ 29 (.tmp 34) (.tmp 31) ?_ ?_ ?_ HS2.out ?_); rotate_left; rfl; rfl; rfl; rotate_left; rfl)) | (focus ((with_reducible refine wpList_store_w ?_ 29 (.tmp 36) (.tmp 32) ?_ ?_ ?_ HS3.out ?_); rotate_left; rfl; rfl; rfl; rotate_left; rfl)) | (focus ((with_reducible refine wpList_store_w ?_ 4 (.tmp 38) (.const (.bool false)) ?_ ?_ ?_ HS4.out ?_); rotate_left; rfl; rfl; rfl; rotate_left; rfl)))
  refine (wait_any b _ t _ X4.out).mono ?_
  rintro e' w6 ⟨rfl, X6, K6⟩
  have F6 := hide X6
  have K7 := hide (KZ.out.tr K6)
  clear X6 K6
  go_wp2
  refine bodyPost_end (results_none rfl _ _ _) rfl ?_
  exact ⟨rfl, F6.out, K7.out⟩

set_option maxHeartbeats 2000000 in
set_option maxRecDepth 100000 in
theorem back_end3 (b : Nat) (S : Sp) (t : Option Th) (a : An) (hk : a.k = 3) (hh : S.hl = false) (w : World) (X : SpAt w b S t) : Calls Tryd.prog 38 #[.pointer (some ⟨b, 0, none⟩), .agg (anL a).toArray] w fun e' w' => e' = .returned (.tuple #[]) ∧ SpAt w' b (S.fin 131 zr zr) t ∧ Kp [b] w w' := by
  have b1 := (Below.refl w.heap.size w).alloc (Nat.le_refl _) (.cells (anL a).toArray 57)
  have AB := hide (IsB.new w (anL a).toArray 57)
  have X1 := hide (X.below b1)
  have KZ : Hid (Kp [b] w (w.alloc (.cells (anL a).toArray 57))) := Kp.of_below b1
  clear b1 X
  have y0 : (w.alloc (.cells (anL a).toArray 57)).cell? ⟨w.heap.size, 0, none⟩ = some (.int .i64 a.k) := cl_ak AB.out
  rw [hk] at y0
  obtain ⟨v, I, T⟩ := X1.out
  have y26 := cl_has I
  rw [hh] at y26
  clear I T hk hh
  go_enter Tryd.func38, Tryd.ntmps38
  go_wp2_with fail
  refine (end_any b S t 131 zr zr _ X1.out).mono ?_
  rintro e' w6 ⟨rfl, X6, K6⟩
  have F6 := hide X6
  have K7 := hide (KZ.out.tr K6)
  clear X6 K6
  go_wp2
  refine bodyPost_ret (results_none rfl _ _ _) rfl ?_
  exact ⟨rfl, F6.out, K7.out⟩

set_option maxHeartbeats 2000000 in
set_option maxRecDepth 100000 in
theorem back_last3 (b : Nat) (S : Sp) (t : Option Th) (a : An) (hk : a.k = 3) (hh : S.hl = true) (w : World) (X : SpAt w b S t) : Calls Tryd.prog 38 #[.pointer (some ⟨b, 0, none⟩), .agg (anL a).toArray] w fun e' w' => e' = .returned (.tuple #[]) ∧ SpAt w' b { S with lf := S.la, la := zr, hl := false, pl := 10 } t ∧ Kp [b] w w' := by
  have b1 := (Below.refl w.heap.size w).alloc (Nat.le_refl _) (.cells (anL a).toArray 57)
  have AB := hide (IsB.new w (anL a).toArray 57)
  have X1 := hide (X.below b1)
  have KZ : Hid (Kp [b] w (w.alloc (.cells (anL a).toArray 57))) := Kp.of_below b1
  clear b1 X
  have y0 : (w.alloc (.cells (anL a).toArray 57)).cell? ⟨w.heap.size, 0, none⟩ = some (.int .i64 a.k) := cl_ak AB.out
  rw [hk] at y0
  obtain ⟨v, I, T⟩ := X1.out
  have y26 := cl_has I
  rw [hh] at y26
  have LL := hide (ld_last I)
  obtain ⟨w2, hs2, I2, k2⟩ := st_left I S.la
  obtain ⟨w3, hs3, I3, k3⟩ := st_last I2 zr
  obtain ⟨w4, hs4, I4, k4⟩ := st_has I3 false
  have X4 : Hid (SpAt w4 b { S with lf := S.la, la := zr, hl := false } t) := ⟨v, I4, T.turn I (k2.tr (k3.tr k4))⟩
  replace KZ := hide (KZ.out.tr (k2.tr (k3.tr k4)))
  have HS2 := hide hs2
  have HS3 := hide hs3
  have HS4 := hide hs4
  clear hs2 hs3 hs4 I2 I3 I4 k2 k3 k4 T I hk hh X1
  go_enter Tryd.func38, Tryd.ntmps38
  go_wp2_with (first | (focus ((with_reducible refine wpList_load_w ?_ 29 (.tmp 30) ?_ ?_ LL.out ?_); rotate_left; rfl; rfl; rotate_left; rfl)) | (focus ((with_reducible refine wpList_store_w ?_ 29 (.tmp 34) (.tmp 31) ?_ ?_ ?_ HS2.out ?_); rotate_left; rfl; rfl; rfl; rotate_left; rfl)) | (focus ((with_reducible refine wpList_store_w ?_ 29 (.tmp 36) (.tmp 32) ?_ ?_ ?_ HS3.out ?_); rotate_left; rfl; rfl; rfl; rotate_left; rfl)) | (focus ((with_reducible refine wpList_store_w ?_ 4 (.tmp 38) (.const (.bool false)) ?_ ?_ ?_ HS4.out ?_); rotate_left; rfl; rfl; rfl; rotate_left; rfl)))
  refine (wait_any b _ t _ X4.out).mono ?_
  rintro e' w6 ⟨rfl, X6, K6⟩
  have F6 := hide X6
  have K7 := hide (KZ.out.tr K6)
  clear X6 K6
  go_wp2
  refine bodyPost_end (results_none rfl _ _ _) rfl ?_
  exact ⟨rfl, F6.out, K7.out⟩

set_option maxHeartbeats 2000000 in
set_option maxRecDepth 100000 in
theorem back_no (b : Nat) (S : Sp) (t : Option Th) (a : An) (hk2 : ¬a.k = 2) (hk3 : ¬a.k = 3) (w : World) (X : SpAt w b S t) : Calls Tryd.prog 38 #[.pointer (some ⟨b, 0, none⟩), .agg (anL a).toArray] w fun e' w' => e' = .returned (.tuple #[]) ∧ SpAt w' b S.wait t ∧ Kp [b] w w' := by
  have b1 := (Below.refl w.heap.size w).alloc (Nat.le_refl _) (.cells (anL a).toArray 57)
  have AB := hide (IsB.new w (anL a).toArray 57)
  have X1 := hide (X.below b1)
  have KZ : Hid (Kp [b] w (w.alloc (.cells (anL a).toArray 57))) := Kp.of_below b1
  clear b1 X
  have y0 : (w.alloc (.cells (anL a).toArray 57)).cell? ⟨w.heap.size, 0, none⟩ = some (.int .i64 a.k) := cl_ak AB.out
  have e1 : (a.k == 2) = false := by simpa using hk2
  have e3 : (a.k == 3) = false := by simpa using hk3
  generalize hg : a.k = ak at *
  replace hg := hide hg
  go_enter Tryd.func38, Tryd.ntmps38
  go_wp2_with fail
  refine (wait_any b S t _ X1.out).mono ?_
  rintro e' w6 ⟨rfl, X6, K6⟩
  have F6 := hide X6
  have K7 := hide (KZ.out.tr K6)
  clear X6 K6
  go_wp2
  refine bodyPost_end (results_none rfl _ _ _) rfl ?_
  exact ⟨rfl, F6.out, K7.out⟩

theorem back_any (b : Nat) (S : Sp) (t : Option Th) (a : An) (w : World) (X : SpAt w b S t) : Calls Tryd.prog 38 #[.pointer (some ⟨b, 0, none⟩), .agg (anL a).toArray] w fun e' w' => e' = .returned (.tuple #[]) ∧ SpAt w' b (S.stepBack a) t ∧ Kp [b] w w' := by
  unfold Sp.stepBack
  by_cases h2 : a.k = 2
  · rw [if_pos (Or.inl h2)]
    by_cases hh : S.hl = true
    · rw [if_pos hh]; exact back_last2 b S t a h2 hh w X
    · rw [if_neg hh]; exact back_end2 b S t a h2 (by simpa using hh) w X
  · by_cases h3 : a.k = 3
    · rw [if_pos (Or.inr h3)]
      by_cases hh : S.hl = true
      · rw [if_pos hh]; exact back_last3 b S t a h3 hh w X
      · rw [if_neg hh]; exact back_end3 b S t a h3 (by simpa using hh) w X
    · rw [if_neg fun h => h.elim h2 h3]
      exact back_no b S t a h2 h3 w X

/-- Is its place to the right of the one that it has locked? -/
def Sp.look (S : Sp) (t : Option Th) : Sp × Option Th := if klt (S.lf.rk, S.lf.kn) (S.rg.rk, S.rg.kn) = false then S.free t (.fin 131 zr zr) else if klt (S.rg.rk, S.rg.kn) (S.me.rk, S.me.kn) = true then S.free t (.go S.rg) else if klt (S.me.rk, S.me.kn) (S.rg.rk, S.rg.kn) = true then ({ S with pl := 4 }, t) else if 0 < S.wl then S.free t .wait else ({ S with pl := 3 }, t)

theorem ld_key2 {w : World} {b : Nat} {r n : Int} (I : IsB w b #[.int .i64 r, .int .u64 n] 27) : (Instr.loadAt 27 (.pointer (some ⟨b, 0, none⟩))).run Tryd.prog w = .ok (.agg #[.int .i64 r, .int .u64 n]) w := load_mid (cs := [.int .i64 r, .int .u64 n]) I 0 _ [.int .i64 r, .int .u64 n] _ rfl Tryd.underlying27 rfl (by kernel_rfl)
theorem store_newr (w : World) (r : Rf) : (Instr.storeAt 29 (.pointer (some ⟨w.heap.size, 0, none⟩)) (.agg r.cells)).run Tryd.prog (w.alloc (.cells #[.int .i64 0, .int .i64 0, .int .u64 0, .int .i64 0, .int .u64 0] 29)) = .ok () (w.alloc (.cells r.cells 29)) := run_storeAt_new w 29 _ r.cells ref_info rfl (by kernel_rfl)

set_option maxHeartbeats 2000000 in
set_option maxRecDepth 100000 in
theorem look_again (b : Nat) (S : Sp) (t : Option Th) (h1 : klt (S.lf.rk, S.lf.kn) (S.rg.rk, S.rg.kn) = false) (w : World) (X : SpAt w b S t) : Calls Tryd.prog 39 #[.pointer (some ⟨b, 0, none⟩)] w fun e' w' => e' = .returned (.tuple #[]) ∧ SpAt w' b (S.free t (.fin 131 zr zr)).1 (S.free t (.fin 131 zr zr)).2 ∧ Kp [b] w w' := by
  have mixed : Tryd.prog.follows .mixedOrders = true := by kernel_rfl
  have b1 := (Below.refl w.heap.size w).alloc (Nat.le_refl _) (.cells #[.int .i64 S.me.rk, .int .u64 S.me.kn] 27)
  have J := hide (IsB.new w #[.int .i64 S.me.rk, .int .u64 S.me.kn] 27)
  obtain ⟨v, I0, T0⟩ := X.below b1
  have LM : Hid ((Instr.loadAt 27 (.pointer (some ⟨b, 3, none⟩))).run Tryd.prog w = .ok (.agg #[.int .i64 S.me.rk, .int .u64 S.me.kn]) w) := by obtain ⟨v, I, -⟩ := X; exact ld_mek I
  have I := hide I0
  have T := hide T0
  have KZ : Hid (Kp [b] w (w.alloc (.cells #[.int .i64 S.me.rk, .int .u64 S.me.kn] 27))) := Kp.of_below b1
  clear b1 X I0 T0
  have H1 := hide h1
  clear h1
  go_enter Tryd.func39, Tryd.ntmps39
  go_wp2_with (first | (focus ((with_reducible refine wpList_load_w ?_ 27 (.tmp 8) ?_ ?_ LM.out ?_); rotate_left; rfl; rfl; rotate_left; rfl)))
  generalize (w.alloc (.cells #[.int .i64 S.me.rk, .int .u64 S.me.kn] 27)) = WA at *
  generalize w.heap.size = H at *
  clear LM
  have ID := hide (I.out.below ((Below.refl _ _).drew))
  have TD := hide (T.out.below ((Below.refl _ _).drew))
  have JD := hide (J.out.below ((Below.refl _ _).drew))
  have KD := hide (KZ.out.bel ((Below.refl _ _).drew))
  clear I T J KZ
  refine regionL 13 (fun w' => IsB w' b (spL S v).toArray 85 ∧ IsB w' H #[.int .i64 S.me.rk, .int .u64 S.me.kn] 27) mixed ⟨ID.out, JD.out⟩ (fun hHeld => ?_)
  generalize WA.drew = WD2 at *
  refine pickA (v := ?_) 0 (some 14) rfl rfl (by kernel_rfl) (by kernel_rfl) (by kernel_rfl) (by decide) (fun _ _ _ h => h) (by rfl) ?_ (by assumption) ?_
  rotate_left
  · intro w'
    go_simp
    try with_reducible rfl
  try simp only [Act.put, List.setIfInBounds_toArray, List.set_cons_zero, List.set_cons_succ]
  refine pickA (v := ?_) 1 (some 15) rfl rfl (by kernel_rfl) (by kernel_rfl) (by kernel_rfl) (by decide) (fun _ _ _ h => h) (by rfl) ?_ (by assumption) ?_
  rotate_left
  · intro w'
    go_simp
    try with_reducible rfl
  try simp only [Act.put, List.setIfInBounds_toArray, List.set_cons_zero, List.set_cons_succ]
  refine pickA (v := ?_) 2 (some 16) rfl rfl (by kernel_rfl) (by kernel_rfl) (by kernel_rfl) (by decide) (fun _ _ _ h => h) (by rfl) ?_ (by assumption) ?_
  rotate_left
  · intro w'
    go_simp
    try with_reducible rfl
  try simp only [Act.put, List.setIfInBounds_toArray, List.set_cons_zero, List.set_cons_succ]
  refine pickA (v := ?_) 3 (some 17) rfl rfl (by kernel_rfl) (by kernel_rfl) (by kernel_rfl) (by decide) (fun _ _ _ h => h) (by rfl) ?_ (by assumption) ?_
  rotate_left
  · intro w'
    go_simp
    try with_reducible rfl
  try simp only [Act.put, List.setIfInBounds_toArray, List.set_cons_zero, List.set_cons_succ]
  refine pickL (v := .agg #[.int .i64 S.lf.rk, .int .u64 S.lf.kn]) 4 (some 18) rfl rfl (by kernel_rfl) (by kernel_rfl) (by kernel_rfl) (by decide) (by kernel_rfl) (by kernel_rfl) (fun _ _ _ h => h) (by rfl) ?_ (by assumption) ?_
  · intro w' hSw
    obtain ⟨q0, q1⟩ := hSw
    exact exec_load rfl rfl (ld_leftk q0)
  try simp only [Act.put, List.setIfInBounds_toArray, List.set_cons_zero, List.set_cons_succ]
  refine pickA (v := ?_) 5 (some 19) rfl rfl (by kernel_rfl) (by kernel_rfl) (by kernel_rfl) (by decide) (fun _ _ _ h => h) (by rfl) ?_ (by assumption) ?_
  rotate_left
  · intro w'
    go_simp
    try with_reducible rfl
  try simp only [Act.put, List.setIfInBounds_toArray, List.set_cons_zero, List.set_cons_succ]
  refine pickA (v := ?_) 6 (some 20) rfl rfl (by kernel_rfl) (by kernel_rfl) (by kernel_rfl) (by decide) (fun _ _ _ h => h) (by rfl) ?_ (by assumption) ?_
  rotate_left
  · intro w'
    go_simp
    try with_reducible rfl
  try simp only [Act.put, List.setIfInBounds_toArray, List.set_cons_zero, List.set_cons_succ]
  refine pickA (v := ?_) 7 (some 21) rfl rfl (by kernel_rfl) (by kernel_rfl) (by kernel_rfl) (by decide) (fun _ _ _ h => h) (by rfl) ?_ (by assumption) ?_
  rotate_left
  · intro w'
    go_simp
    try with_reducible rfl
  try simp only [Act.put, List.setIfInBounds_toArray, List.set_cons_zero, List.set_cons_succ]
  refine pickA (v := ?_) 8 (some 22) rfl rfl (by kernel_rfl) (by kernel_rfl) (by kernel_rfl) (by decide) (fun _ _ _ h => h) (by rfl) ?_ (by assumption) ?_
  rotate_left
  · intro w'
    go_simp
    try with_reducible rfl
  try simp only [Act.put, List.setIfInBounds_toArray, List.set_cons_zero, List.set_cons_succ]
  refine pickL (v := .agg #[.int .i64 S.rg.rk, .int .u64 S.rg.kn]) 9 (some 23) rfl rfl (by kernel_rfl) (by kernel_rfl) (by kernel_rfl) (by decide) (by kernel_rfl) (by kernel_rfl) (fun _ _ _ h => h) (by rfl) ?_ (by assumption) ?_
  · intro w' hSw
    obtain ⟨q0, q1⟩ := hSw
    exact exec_load rfl rfl (ld_rightk q0)
  try simp only [Act.put, List.setIfInBounds_toArray, List.set_cons_zero, List.set_cons_succ]
  refine oneL (i := 10) (by kernel_rfl) rfl (fun K hK => ?_)
  go_simp
  refine (kLess_any S.lf.rk S.lf.kn S.rg.rk S.rg.kn WD2).mono ?_
  rintro e' w2 ⟨rfl, hg⟩
  rw [H1.out]
  have I2 := hide (ID.out.below hg.below)
  have T2 := hide (TD.out.below hg.below)
  have J2 := hide (JD.out.below hg.below)
  have K2 := hide (KD.out.bel hg.below)
  clear hg
  refine hK.out _ _ ?_ ?_
  · exact ⟨I2.out, J2.out⟩
  clear hK K
  try simp only [Act.put, List.setIfInBounds_toArray, List.set_cons_zero, List.set_cons_succ]
  clear hHeld
  have hHeld : (fun w' => IsB w' b (spL S v).toArray 85 ∧ IsB w' H #[.int .i64 S.me.rk, .int .u64 S.me.kn] 27) w2 := ⟨I2.out, J2.out⟩
  refine pickA (v := ?_) 11 (some 25) rfl rfl (by kernel_rfl) (by kernel_rfl) (by kernel_rfl) (by decide) (fun _ _ _ h => h) (by rfl) ?_ (by assumption) ?_
  rotate_left
  · intro w'
    go_simp
    try with_reducible rfl
  try simp only [Act.put, List.setIfInBounds_toArray, List.set_cons_zero, List.set_cons_succ]
  refine pickA (v := ?_) 12 (some 13) rfl rfl (by kernel_rfl) (by kernel_rfl) (by kernel_rfl) (by decide) (fun _ _ _ h => h) (by rfl) ?_ (by assumption) ?_
  rotate_left
  · intro w'
    go_simp
    try with_reducible rfl
  try simp only [Act.put, List.setIfInBounds_toArray, List.set_cons_zero, List.set_cons_succ]
  refine doneL (by kernel_rfl) ?_ _
  clear hHeld
  clear ID TD JD KD WD2
  have I := I2
  have T := T2
  have J := J2
  have KZ := K2
  clear I2 T2 J2 K2
  go_wp2_with fail
  have X1 : Hid (SpAt w2 b S t) := ⟨v, I.out, T.out⟩
  refine (freeFail_any b S t 131 _ X1.out).mono ?_
  rintro e' w6 ⟨rfl, X6, K6⟩
  have F6 := hide X6
  have K7 := hide (KZ.out.tr K6)
  clear X6 K6
  go_wp2
  refine bodyPost_end (results_none rfl _ _ _) rfl ?_
  exact ⟨rfl, F6.out, K7.out⟩

set_option maxHeartbeats 2000000 in
set_option maxRecDepth 100000 in
theorem look_go (b : Nat) (S : Sp) (t : Option Th) (h1 : klt (S.lf.rk, S.lf.kn) (S.rg.rk, S.rg.kn) = true) (h2 : klt (S.rg.rk, S.rg.kn) (S.me.rk, S.me.kn) = true) (w : World) (X : SpAt w b S t) : Calls Tryd.prog 39 #[.pointer (some ⟨b, 0, none⟩)] w fun e' w' => e' = .returned (.tuple #[]) ∧ SpAt w' b (S.free t (.go S.rg)).1 (S.free t (.go S.rg)).2 ∧ Kp [b] w w' := by
  have mixed : Tryd.prog.follows .mixedOrders = true := by kernel_rfl
  have b1 := (Below.refl w.heap.size w).alloc (Nat.le_refl _) (.cells #[.int .i64 S.me.rk, .int .u64 S.me.kn] 27)
  have J := hide (IsB.new w #[.int .i64 S.me.rk, .int .u64 S.me.kn] 27)
  obtain ⟨v, I0, T0⟩ := X.below b1
  have LM : Hid ((Instr.loadAt 27 (.pointer (some ⟨b, 3, none⟩))).run Tryd.prog w = .ok (.agg #[.int .i64 S.me.rk, .int .u64 S.me.kn]) w) := by obtain ⟨v, I, -⟩ := X; exact ld_mek I
  have I := hide I0
  have T := hide T0
  have KZ : Hid (Kp [b] w (w.alloc (.cells #[.int .i64 S.me.rk, .int .u64 S.me.kn] 27))) := Kp.of_below b1
  clear b1 X I0 T0
  have H1 := hide h1
  have H2 := hide h2
  clear h1 h2
  go_enter Tryd.func39, Tryd.ntmps39
  go_wp2_with (first | (focus ((with_reducible refine wpList_load_w ?_ 27 (.tmp 8) ?_ ?_ LM.out ?_); rotate_left; rfl; rfl; rotate_left; rfl)))
  generalize (w.alloc (.cells #[.int .i64 S.me.rk, .int .u64 S.me.kn] 27)) = WA at *
  generalize w.heap.size = H at *
  clear LM
  have ID := hide (I.out.below ((Below.refl _ _).drew))
  have TD := hide (T.out.below ((Below.refl _ _).drew))
  have JD := hide (J.out.below ((Below.refl _ _).drew))
  have KD := hide (KZ.out.bel ((Below.refl _ _).drew))
  clear I T J KZ
  refine regionL 13 (fun w' => IsB w' b (spL S v).toArray 85 ∧ IsB w' H #[.int .i64 S.me.rk, .int .u64 S.me.kn] 27) mixed ⟨ID.out, JD.out⟩ (fun hHeld => ?_)
  generalize WA.drew = WD2 at *
  refine pickA (v := ?_) 0 (some 14) rfl rfl (by kernel_rfl) (by kernel_rfl) (by kernel_rfl) (by decide) (fun _ _ _ h => h) (by rfl) ?_ (by assumption) ?_
  rotate_left
  · intro w'
    go_simp
    try with_reducible rfl
  try simp only [Act.put, List.setIfInBounds_toArray, List.set_cons_zero, List.set_cons_succ]
  refine pickA (v := ?_) 1 (some 15) rfl rfl (by kernel_rfl) (by kernel_rfl) (by kernel_rfl) (by decide) (fun _ _ _ h => h) (by rfl) ?_ (by assumption) ?_
  rotate_left
  · intro w'
    go_simp
    try with_reducible rfl
  try simp only [Act.put, List.setIfInBounds_toArray, List.set_cons_zero, List.set_cons_succ]
  refine pickA (v := ?_) 2 (some 16) rfl rfl (by kernel_rfl) (by kernel_rfl) (by kernel_rfl) (by decide) (fun _ _ _ h => h) (by rfl) ?_ (by assumption) ?_
  rotate_left
  · intro w'
    go_simp
    try with_reducible rfl
  try simp only [Act.put, List.setIfInBounds_toArray, List.set_cons_zero, List.set_cons_succ]
  refine pickA (v := ?_) 3 (some 17) rfl rfl (by kernel_rfl) (by kernel_rfl) (by kernel_rfl) (by decide) (fun _ _ _ h => h) (by rfl) ?_ (by assumption) ?_
  rotate_left
  · intro w'
    go_simp
    try with_reducible rfl
  try simp only [Act.put, List.setIfInBounds_toArray, List.set_cons_zero, List.set_cons_succ]
  refine pickL (v := .agg #[.int .i64 S.lf.rk, .int .u64 S.lf.kn]) 4 (some 18) rfl rfl (by kernel_rfl) (by kernel_rfl) (by kernel_rfl) (by decide) (by kernel_rfl) (by kernel_rfl) (fun _ _ _ h => h) (by rfl) ?_ (by assumption) ?_
  · intro w' hSw
    obtain ⟨q0, q1⟩ := hSw
    exact exec_load rfl rfl (ld_leftk q0)
  try simp only [Act.put, List.setIfInBounds_toArray, List.set_cons_zero, List.set_cons_succ]
  refine pickA (v := ?_) 5 (some 19) rfl rfl (by kernel_rfl) (by kernel_rfl) (by kernel_rfl) (by decide) (fun _ _ _ h => h) (by rfl) ?_ (by assumption) ?_
  rotate_left
  · intro w'
    go_simp
    try with_reducible rfl
  try simp only [Act.put, List.setIfInBounds_toArray, List.set_cons_zero, List.set_cons_succ]
  refine pickA (v := ?_) 6 (some 20) rfl rfl (by kernel_rfl) (by kernel_rfl) (by kernel_rfl) (by decide) (fun _ _ _ h => h) (by rfl) ?_ (by assumption) ?_
  rotate_left
  · intro w'
    go_simp
    try with_reducible rfl
  try simp only [Act.put, List.setIfInBounds_toArray, List.set_cons_zero, List.set_cons_succ]
  refine pickA (v := ?_) 7 (some 21) rfl rfl (by kernel_rfl) (by kernel_rfl) (by kernel_rfl) (by decide) (fun _ _ _ h => h) (by rfl) ?_ (by assumption) ?_
  rotate_left
  · intro w'
    go_simp
    try with_reducible rfl
  try simp only [Act.put, List.setIfInBounds_toArray, List.set_cons_zero, List.set_cons_succ]
  refine pickA (v := ?_) 8 (some 22) rfl rfl (by kernel_rfl) (by kernel_rfl) (by kernel_rfl) (by decide) (fun _ _ _ h => h) (by rfl) ?_ (by assumption) ?_
  rotate_left
  · intro w'
    go_simp
    try with_reducible rfl
  try simp only [Act.put, List.setIfInBounds_toArray, List.set_cons_zero, List.set_cons_succ]
  refine pickL (v := .agg #[.int .i64 S.rg.rk, .int .u64 S.rg.kn]) 9 (some 23) rfl rfl (by kernel_rfl) (by kernel_rfl) (by kernel_rfl) (by decide) (by kernel_rfl) (by kernel_rfl) (fun _ _ _ h => h) (by rfl) ?_ (by assumption) ?_
  · intro w' hSw
    obtain ⟨q0, q1⟩ := hSw
    exact exec_load rfl rfl (ld_rightk q0)
  try simp only [Act.put, List.setIfInBounds_toArray, List.set_cons_zero, List.set_cons_succ]
  refine oneL (i := 10) (by kernel_rfl) rfl (fun K hK => ?_)
  go_simp
  refine (kLess_any S.lf.rk S.lf.kn S.rg.rk S.rg.kn WD2).mono ?_
  rintro e' w2 ⟨rfl, hg⟩
  rw [H1.out]
  have I2 := hide (ID.out.below hg.below)
  have T2 := hide (TD.out.below hg.below)
  have J2 := hide (JD.out.below hg.below)
  have K2 := hide (KD.out.bel hg.below)
  clear hg
  refine hK.out _ _ ?_ ?_
  · exact ⟨I2.out, J2.out⟩
  clear hK K
  try simp only [Act.put, List.setIfInBounds_toArray, List.set_cons_zero, List.set_cons_succ]
  clear hHeld
  have hHeld : (fun w' => IsB w' b (spL S v).toArray 85 ∧ IsB w' H #[.int .i64 S.me.rk, .int .u64 S.me.kn] 27) w2 := ⟨I2.out, J2.out⟩
  refine pickA (v := ?_) 11 (some 25) rfl rfl (by kernel_rfl) (by kernel_rfl) (by kernel_rfl) (by decide) (fun _ _ _ h => h) (by rfl) ?_ (by assumption) ?_
  rotate_left
  · intro w'
    go_simp
    try with_reducible rfl
  try simp only [Act.put, List.setIfInBounds_toArray, List.set_cons_zero, List.set_cons_succ]
  refine pickA (v := ?_) 12 (some 13) rfl rfl (by kernel_rfl) (by kernel_rfl) (by kernel_rfl) (by decide) (fun _ _ _ h => h) (by rfl) ?_ (by assumption) ?_
  rotate_left
  · intro w'
    go_simp
    try with_reducible rfl
  try simp only [Act.put, List.setIfInBounds_toArray, List.set_cons_zero, List.set_cons_succ]
  refine doneL (by kernel_rfl) ?_ _
  clear hHeld
  clear ID TD JD KD WD2
  have I := I2
  have T := T2
  have J := J2
  have KZ := K2
  clear I2 T2 J2 K2
  go_wp2_with fail
  have ID := hide (I.out.below ((Below.refl _ _).drew))
  have TD := hide (T.out.below ((Below.refl _ _).drew))
  have JD := hide (J.out.below ((Below.refl _ _).drew))
  have KD := hide (KZ.out.bel ((Below.refl _ _).drew))
  clear I T J KZ
  refine regionL 8 (fun w' => IsB w' b (spL S v).toArray 85 ∧ IsB w' H #[.int .i64 S.me.rk, .int .u64 S.me.kn] 27) mixed ⟨ID.out, JD.out⟩ (fun hHeld => ?_)
  generalize w2.drew = WD4 at *
  refine pickA (v := ?_) 0 (some 29) rfl rfl (by kernel_rfl) (by kernel_rfl) (by kernel_rfl) (by decide) (fun _ _ _ h => h) (by rfl) ?_ (by assumption) ?_
  rotate_left
  · intro w'
    go_simp
    try with_reducible rfl
  try simp only [Act.put, List.setIfInBounds_toArray, List.set_cons_zero, List.set_cons_succ]
  refine pickA (v := ?_) 1 (some 30) rfl rfl (by kernel_rfl) (by kernel_rfl) (by kernel_rfl) (by decide) (fun _ _ _ h => h) (by rfl) ?_ (by assumption) ?_
  rotate_left
  · intro w'
    go_simp
    try with_reducible rfl
  try simp only [Act.put, List.setIfInBounds_toArray, List.set_cons_zero, List.set_cons_succ]
  refine pickA (v := ?_) 2 (some 31) rfl rfl (by kernel_rfl) (by kernel_rfl) (by kernel_rfl) (by decide) (fun _ _ _ h => h) (by rfl) ?_ (by assumption) ?_
  rotate_left
  · intro w'
    go_simp
    try with_reducible rfl
  try simp only [Act.put, List.setIfInBounds_toArray, List.set_cons_zero, List.set_cons_succ]
  refine pickA (v := ?_) 3 (some 32) rfl rfl (by kernel_rfl) (by kernel_rfl) (by kernel_rfl) (by decide) (fun _ _ _ h => h) (by rfl) ?_ (by assumption) ?_
  rotate_left
  · intro w'
    go_simp
    try with_reducible rfl
  try simp only [Act.put, List.setIfInBounds_toArray, List.set_cons_zero, List.set_cons_succ]
  refine pickL (v := .agg #[.int .i64 S.rg.rk, .int .u64 S.rg.kn]) 4 (some 33) rfl rfl (by kernel_rfl) (by kernel_rfl) (by kernel_rfl) (by decide) (by kernel_rfl) (by kernel_rfl) (fun _ _ _ h => h) (by rfl) ?_ (by assumption) ?_
  · intro w' hSw
    obtain ⟨q0, q1⟩ := hSw
    exact exec_load rfl rfl (ld_rightk q0)
  try simp only [Act.put, List.setIfInBounds_toArray, List.set_cons_zero, List.set_cons_succ]
  refine pickL (v := .agg #[.int .i64 S.me.rk, .int .u64 S.me.kn]) 5 (some 34) rfl rfl (by kernel_rfl) (by kernel_rfl) (by kernel_rfl) (by decide) (by kernel_rfl) (by kernel_rfl) (fun _ _ _ h => h) (by rfl) ?_ (by assumption) ?_
  · intro w' hSw
    obtain ⟨q0, q1⟩ := hSw
    exact exec_load rfl rfl (ld_key2 q1)
  try simp only [Act.put, List.setIfInBounds_toArray, List.set_cons_zero, List.set_cons_succ]
  refine oneL (i := 6) (by kernel_rfl) rfl (fun K hK => ?_)
  go_simp
  refine (kLess_any S.rg.rk S.rg.kn S.me.rk S.me.kn WD4).mono ?_
  rintro e' w4 ⟨rfl, hg⟩
  rw [H2.out]
  have I4 := hide (ID.out.below hg.below)
  have T4 := hide (TD.out.below hg.below)
  have J4 := hide (JD.out.below hg.below)
  have K4 := hide (KD.out.bel hg.below)
  clear hg
  refine hK.out _ _ ?_ ?_
  · exact ⟨I4.out, J4.out⟩
  clear hK K
  try simp only [Act.put, List.setIfInBounds_toArray, List.set_cons_zero, List.set_cons_succ]
  clear hHeld
  have hHeld : (fun w' => IsB w' b (spL S v).toArray 85 ∧ IsB w' H #[.int .i64 S.me.rk, .int .u64 S.me.kn] 27) w4 := ⟨I4.out, J4.out⟩
  refine pickA (v := ?_) 7 (some 28) rfl rfl (by kernel_rfl) (by kernel_rfl) (by kernel_rfl) (by decide) (fun _ _ _ h => h) (by rfl) ?_ (by assumption) ?_
  rotate_left
  · intro w'
    go_simp
    try with_reducible rfl
  try simp only [Act.put, List.setIfInBounds_toArray, List.set_cons_zero, List.set_cons_succ]
  refine doneL (by kernel_rfl) ?_ _
  clear hHeld
  clear ID TD JD KD WD4
  have I := I4
  have T := T4
  have J := J4
  have KZ := K4
  clear I4 T4 J4 K4
  have LR := hide (ld_right I.out)
  have SN := hide (store_newr w4 S.rg)
  have b5 := (Below.refl w4.heap.size w4).alloc (Nat.le_refl _) (.cells S.rg.cells 29)
  have X1 : Hid (SpAt (w4.alloc (.cells S.rg.cells 29)) b S t) := ⟨v, I.out.below b5, T.out.below b5⟩
  have CT := hide (free_any b S t (.go S.rg) _ _ X1.out ⟨_, rfl, IsB.new w4 S.rg.cells 29⟩)
  replace KZ := hide (KZ.out.bel b5)
  clear b5 I T J
  go_wp2_with (first | (focus ((with_reducible refine wpList_load_w ?_ 29 (.tmp 38) ?_ ?_ LR.out ?_); rotate_left; rfl; rfl; rotate_left; rfl)) | (focus ((with_reducible refine wpList_store_w ?_ 29 (.tmp 3) (.tmp 39) ?_ ?_ ?_ SN.out ?_); rotate_left; rfl; rfl; rfl; rotate_left; rfl)))
  refine CT.out.mono ?_
  rintro e' w6 ⟨rfl, X6, K6⟩
  have F6 := hide X6
  have K7 := hide (KZ.out.tr K6)
  clear X6 K6
  go_wp2
  refine bodyPost_end (results_none rfl _ _ _) rfl ?_
  exact ⟨rfl, F6.out, K7.out⟩

set_option maxHeartbeats 2000000 in
set_option maxRecDepth 100000 in
theorem look_enter (b : Nat) (S : Sp) (t : Option Th) (h1 : klt (S.lf.rk, S.lf.kn) (S.rg.rk, S.rg.kn) = true) (h2 : klt (S.rg.rk, S.rg.kn) (S.me.rk, S.me.kn) = false) (h3 : klt (S.me.rk, S.me.kn) (S.rg.rk, S.rg.kn) = true) (w : World) (X : SpAt w b S t) : Calls Tryd.prog 39 #[.pointer (some ⟨b, 0, none⟩)] w fun e' w' => e' = .returned (.tuple #[]) ∧ SpAt w' b { S with pl := 4 } t ∧ Kp [b] w w' := by
  have mixed : Tryd.prog.follows .mixedOrders = true := by kernel_rfl
  have b1 := (Below.refl w.heap.size w).alloc (Nat.le_refl _) (.cells #[.int .i64 S.me.rk, .int .u64 S.me.kn] 27)
  have J := hide (IsB.new w #[.int .i64 S.me.rk, .int .u64 S.me.kn] 27)
  obtain ⟨v, I0, T0⟩ := X.below b1
  have LM : Hid ((Instr.loadAt 27 (.pointer (some ⟨b, 3, none⟩))).run Tryd.prog w = .ok (.agg #[.int .i64 S.me.rk, .int .u64 S.me.kn]) w) := by obtain ⟨v, I, -⟩ := X; exact ld_mek I
  have I := hide I0
  have T := hide T0
  have KZ : Hid (Kp [b] w (w.alloc (.cells #[.int .i64 S.me.rk, .int .u64 S.me.kn] 27))) := Kp.of_below b1
  clear b1 X I0 T0
  have H1 := hide h1
  have H2 := hide h2
  have H3 := hide h3
  clear h1 h2 h3
  go_enter Tryd.func39, Tryd.ntmps39
  go_wp2_with (first | (focus ((with_reducible refine wpList_load_w ?_ 27 (.tmp 8) ?_ ?_ LM.out ?_); rotate_left; rfl; rfl; rotate_left; rfl)))
  generalize (w.alloc (.cells #[.int .i64 S.me.rk, .int .u64 S.me.kn] 27)) = WA at *
  generalize w.heap.size = H at *
  clear LM
  have ID := hide (I.out.below ((Below.refl _ _).drew))
  have TD := hide (T.out.below ((Below.refl _ _).drew))
  have JD := hide (J.out.below ((Below.refl _ _).drew))
  have KD := hide (KZ.out.bel ((Below.refl _ _).drew))
  clear I T J KZ
  refine regionL 13 (fun w' => IsB w' b (spL S v).toArray 85 ∧ IsB w' H #[.int .i64 S.me.rk, .int .u64 S.me.kn] 27) mixed ⟨ID.out, JD.out⟩ (fun hHeld => ?_)
  generalize WA.drew = WD2 at *
  refine pickA (v := ?_) 0 (some 14) rfl rfl (by kernel_rfl) (by kernel_rfl) (by kernel_rfl) (by decide) (fun _ _ _ h => h) (by rfl) ?_ (by assumption) ?_
  rotate_left
  · intro w'
    go_simp
    try with_reducible rfl
  try simp only [Act.put, List.setIfInBounds_toArray, List.set_cons_zero, List.set_cons_succ]
  refine pickA (v := ?_) 1 (some 15) rfl rfl (by kernel_rfl) (by kernel_rfl) (by kernel_rfl) (by decide) (fun _ _ _ h => h) (by rfl) ?_ (by assumption) ?_
  rotate_left
  · intro w'
    go_simp
    try with_reducible rfl
  try simp only [Act.put, List.setIfInBounds_toArray, List.set_cons_zero, List.set_cons_succ]
  refine pickA (v := ?_) 2 (some 16) rfl rfl (by kernel_rfl) (by kernel_rfl) (by kernel_rfl) (by decide) (fun _ _ _ h => h) (by rfl) ?_ (by assumption) ?_
  rotate_left
  · intro w'
    go_simp
    try with_reducible rfl
  try simp only [Act.put, List.setIfInBounds_toArray, List.set_cons_zero, List.set_cons_succ]
  refine pickA (v := ?_) 3 (some 17) rfl rfl (by kernel_rfl) (by kernel_rfl) (by kernel_rfl) (by decide) (fun _ _ _ h => h) (by rfl) ?_ (by assumption) ?_
  rotate_left
  · intro w'
    go_simp
    try with_reducible rfl
  try simp only [Act.put, List.setIfInBounds_toArray, List.set_cons_zero, List.set_cons_succ]
  refine pickL (v := .agg #[.int .i64 S.lf.rk, .int .u64 S.lf.kn]) 4 (some 18) rfl rfl (by kernel_rfl) (by kernel_rfl) (by kernel_rfl) (by decide) (by kernel_rfl) (by kernel_rfl) (fun _ _ _ h => h) (by rfl) ?_ (by assumption) ?_
  · intro w' hSw
    obtain ⟨q0, q1⟩ := hSw
    exact exec_load rfl rfl (ld_leftk q0)
  try simp only [Act.put, List.setIfInBounds_toArray, List.set_cons_zero, List.set_cons_succ]
  refine pickA (v := ?_) 5 (some 19) rfl rfl (by kernel_rfl) (by kernel_rfl) (by kernel_rfl) (by decide) (fun _ _ _ h => h) (by rfl) ?_ (by assumption) ?_
  rotate_left
  · intro w'
    go_simp
    try with_reducible rfl
  try simp only [Act.put, List.setIfInBounds_toArray, List.set_cons_zero, List.set_cons_succ]
  refine pickA (v := ?_) 6 (some 20) rfl rfl (by kernel_rfl) (by kernel_rfl) (by kernel_rfl) (by decide) (fun _ _ _ h => h) (by rfl) ?_ (by assumption) ?_
  rotate_left
  · intro w'
    go_simp
    try with_reducible rfl
  try simp only [Act.put, List.setIfInBounds_toArray, List.set_cons_zero, List.set_cons_succ]
  refine pickA (v := ?_) 7 (some 21) rfl rfl (by kernel_rfl) (by kernel_rfl) (by kernel_rfl) (by decide) (fun _ _ _ h => h) (by rfl) ?_ (by assumption) ?_
  rotate_left
  · intro w'
    go_simp
    try with_reducible rfl
  try simp only [Act.put, List.setIfInBounds_toArray, List.set_cons_zero, List.set_cons_succ]
  refine pickA (v := ?_) 8 (some 22) rfl rfl (by kernel_rfl) (by kernel_rfl) (by kernel_rfl) (by decide) (fun _ _ _ h => h) (by rfl) ?_ (by assumption) ?_
  rotate_left
  · intro w'
    go_simp
    try with_reducible rfl
  try simp only [Act.put, List.setIfInBounds_toArray, List.set_cons_zero, List.set_cons_succ]
  refine pickL (v := .agg #[.int .i64 S.rg.rk, .int .u64 S.rg.kn]) 9 (some 23) rfl rfl (by kernel_rfl) (by kernel_rfl) (by kernel_rfl) (by decide) (by kernel_rfl) (by kernel_rfl) (fun _ _ _ h => h) (by rfl) ?_ (by assumption) ?_
  · intro w' hSw
    obtain ⟨q0, q1⟩ := hSw
    exact exec_load rfl rfl (ld_rightk q0)
  try simp only [Act.put, List.setIfInBounds_toArray, List.set_cons_zero, List.set_cons_succ]
  refine oneL (i := 10) (by kernel_rfl) rfl (fun K hK => ?_)
  go_simp
  refine (kLess_any S.lf.rk S.lf.kn S.rg.rk S.rg.kn WD2).mono ?_
  rintro e' w2 ⟨rfl, hg⟩
  rw [H1.out]
  have I2 := hide (ID.out.below hg.below)
  have T2 := hide (TD.out.below hg.below)
  have J2 := hide (JD.out.below hg.below)
  have K2 := hide (KD.out.bel hg.below)
  clear hg
  refine hK.out _ _ ?_ ?_
  · exact ⟨I2.out, J2.out⟩
  clear hK K
  try simp only [Act.put, List.setIfInBounds_toArray, List.set_cons_zero, List.set_cons_succ]
  clear hHeld
  have hHeld : (fun w' => IsB w' b (spL S v).toArray 85 ∧ IsB w' H #[.int .i64 S.me.rk, .int .u64 S.me.kn] 27) w2 := ⟨I2.out, J2.out⟩
  refine pickA (v := ?_) 11 (some 25) rfl rfl (by kernel_rfl) (by kernel_rfl) (by kernel_rfl) (by decide) (fun _ _ _ h => h) (by rfl) ?_ (by assumption) ?_
  rotate_left
  · intro w'
    go_simp
    try with_reducible rfl
  try simp only [Act.put, List.setIfInBounds_toArray, List.set_cons_zero, List.set_cons_succ]
  refine pickA (v := ?_) 12 (some 13) rfl rfl (by kernel_rfl) (by kernel_rfl) (by kernel_rfl) (by decide) (fun _ _ _ h => h) (by rfl) ?_ (by assumption) ?_
  rotate_left
  · intro w'
    go_simp
    try with_reducible rfl
  try simp only [Act.put, List.setIfInBounds_toArray, List.set_cons_zero, List.set_cons_succ]
  refine doneL (by kernel_rfl) ?_ _
  clear hHeld
  clear ID TD JD KD WD2
  have I := I2
  have T := T2
  have J := J2
  have KZ := K2
  clear I2 T2 J2 K2
  go_wp2_with fail
  have ID := hide (I.out.below ((Below.refl _ _).drew))
  have TD := hide (T.out.below ((Below.refl _ _).drew))
  have JD := hide (J.out.below ((Below.refl _ _).drew))
  have KD := hide (KZ.out.bel ((Below.refl _ _).drew))
  clear I T J KZ
  refine regionL 8 (fun w' => IsB w' b (spL S v).toArray 85 ∧ IsB w' H #[.int .i64 S.me.rk, .int .u64 S.me.kn] 27) mixed ⟨ID.out, JD.out⟩ (fun hHeld => ?_)
  generalize w2.drew = WD4 at *
  refine pickA (v := ?_) 0 (some 29) rfl rfl (by kernel_rfl) (by kernel_rfl) (by kernel_rfl) (by decide) (fun _ _ _ h => h) (by rfl) ?_ (by assumption) ?_
  rotate_left
  · intro w'
    go_simp
    try with_reducible rfl
  try simp only [Act.put, List.setIfInBounds_toArray, List.set_cons_zero, List.set_cons_succ]
  refine pickA (v := ?_) 1 (some 30) rfl rfl (by kernel_rfl) (by kernel_rfl) (by kernel_rfl) (by decide) (fun _ _ _ h => h) (by rfl) ?_ (by assumption) ?_
  rotate_left
  · intro w'
    go_simp
    try with_reducible rfl
  try simp only [Act.put, List.setIfInBounds_toArray, List.set_cons_zero, List.set_cons_succ]
  refine pickA (v := ?_) 2 (some 31) rfl rfl (by kernel_rfl) (by kernel_rfl) (by kernel_rfl) (by decide) (fun _ _ _ h => h) (by rfl) ?_ (by assumption) ?_
  rotate_left
  · intro w'
    go_simp
    try with_reducible rfl
  try simp only [Act.put, List.setIfInBounds_toArray, List.set_cons_zero, List.set_cons_succ]
  refine pickA (v := ?_) 3 (some 32) rfl rfl (by kernel_rfl) (by kernel_rfl) (by kernel_rfl) (by decide) (fun _ _ _ h => h) (by rfl) ?_ (by assumption) ?_
  rotate_left
  · intro w'
    go_simp
    try with_reducible rfl
  try simp only [Act.put, List.setIfInBounds_toArray, List.set_cons_zero, List.set_cons_succ]
  refine pickL (v := .agg #[.int .i64 S.rg.rk, .int .u64 S.rg.kn]) 4 (some 33) rfl rfl (by kernel_rfl) (by kernel_rfl) (by kernel_rfl) (by decide) (by kernel_rfl) (by kernel_rfl) (fun _ _ _ h => h) (by rfl) ?_ (by assumption) ?_
  · intro w' hSw
    obtain ⟨q0, q1⟩ := hSw
    exact exec_load rfl rfl (ld_rightk q0)
  try simp only [Act.put, List.setIfInBounds_toArray, List.set_cons_zero, List.set_cons_succ]
  refine pickL (v := .agg #[.int .i64 S.me.rk, .int .u64 S.me.kn]) 5 (some 34) rfl rfl (by kernel_rfl) (by kernel_rfl) (by kernel_rfl) (by decide) (by kernel_rfl) (by kernel_rfl) (fun _ _ _ h => h) (by rfl) ?_ (by assumption) ?_
  · intro w' hSw
    obtain ⟨q0, q1⟩ := hSw
    exact exec_load rfl rfl (ld_key2 q1)
  try simp only [Act.put, List.setIfInBounds_toArray, List.set_cons_zero, List.set_cons_succ]
  refine oneL (i := 6) (by kernel_rfl) rfl (fun K hK => ?_)
  go_simp
  refine (kLess_any S.rg.rk S.rg.kn S.me.rk S.me.kn WD4).mono ?_
  rintro e' w4 ⟨rfl, hg⟩
  rw [H2.out]
  have I4 := hide (ID.out.below hg.below)
  have T4 := hide (TD.out.below hg.below)
  have J4 := hide (JD.out.below hg.below)
  have K4 := hide (KD.out.bel hg.below)
  clear hg
  refine hK.out _ _ ?_ ?_
  · exact ⟨I4.out, J4.out⟩
  clear hK K
  try simp only [Act.put, List.setIfInBounds_toArray, List.set_cons_zero, List.set_cons_succ]
  clear hHeld
  have hHeld : (fun w' => IsB w' b (spL S v).toArray 85 ∧ IsB w' H #[.int .i64 S.me.rk, .int .u64 S.me.kn] 27) w4 := ⟨I4.out, J4.out⟩
  refine pickA (v := ?_) 7 (some 28) rfl rfl (by kernel_rfl) (by kernel_rfl) (by kernel_rfl) (by decide) (fun _ _ _ h => h) (by rfl) ?_ (by assumption) ?_
  rotate_left
  · intro w'
    go_simp
    try with_reducible rfl
  try simp only [Act.put, List.setIfInBounds_toArray, List.set_cons_zero, List.set_cons_succ]
  refine doneL (by kernel_rfl) ?_ _
  clear hHeld
  clear ID TD JD KD WD4
  have I := I4
  have T := T4
  have J := J4
  have KZ := K4
  clear I4 T4 J4 K4
  go_wp2_with fail
  have ID := hide (I.out.below ((Below.refl _ _).drew))
  have TD := hide (T.out.below ((Below.refl _ _).drew))
  have JD := hide (J.out.below ((Below.refl _ _).drew))
  have KD := hide (KZ.out.bel ((Below.refl _ _).drew))
  clear I T J KZ
  refine regionL 8 (fun w' => IsB w' b (spL S v).toArray 85 ∧ IsB w' H #[.int .i64 S.me.rk, .int .u64 S.me.kn] 27) mixed ⟨ID.out, JD.out⟩ (fun hHeld => ?_)
  generalize w4.drew = WD7 at *
  refine pickL (v := .agg #[.int .i64 S.me.rk, .int .u64 S.me.kn]) 0 (some 44) rfl rfl (by kernel_rfl) (by kernel_rfl) (by kernel_rfl) (by decide) (by kernel_rfl) (by kernel_rfl) (fun _ _ _ h => h) (by rfl) ?_ (by assumption) ?_
  · intro w' hSw
    obtain ⟨q0, q1⟩ := hSw
    exact exec_load rfl rfl (ld_key2 q1)
  try simp only [Act.put, List.setIfInBounds_toArray, List.set_cons_zero, List.set_cons_succ]
  refine pickA (v := ?_) 1 (some 45) rfl rfl (by kernel_rfl) (by kernel_rfl) (by kernel_rfl) (by decide) (fun _ _ _ h => h) (by rfl) ?_ (by assumption) ?_
  rotate_left
  · intro w'
    go_simp
    try with_reducible rfl
  try simp only [Act.put, List.setIfInBounds_toArray, List.set_cons_zero, List.set_cons_succ]
  refine pickA (v := ?_) 2 (some 46) rfl rfl (by kernel_rfl) (by kernel_rfl) (by kernel_rfl) (by decide) (fun _ _ _ h => h) (by rfl) ?_ (by assumption) ?_
  rotate_left
  · intro w'
    go_simp
    try with_reducible rfl
  try simp only [Act.put, List.setIfInBounds_toArray, List.set_cons_zero, List.set_cons_succ]
  refine pickA (v := ?_) 3 (some 47) rfl rfl (by kernel_rfl) (by kernel_rfl) (by kernel_rfl) (by decide) (fun _ _ _ h => h) (by rfl) ?_ (by assumption) ?_
  rotate_left
  · intro w'
    go_simp
    try with_reducible rfl
  try simp only [Act.put, List.setIfInBounds_toArray, List.set_cons_zero, List.set_cons_succ]
  refine pickA (v := ?_) 4 (some 48) rfl rfl (by kernel_rfl) (by kernel_rfl) (by kernel_rfl) (by decide) (fun _ _ _ h => h) (by rfl) ?_ (by assumption) ?_
  rotate_left
  · intro w'
    go_simp
    try with_reducible rfl
  try simp only [Act.put, List.setIfInBounds_toArray, List.set_cons_zero, List.set_cons_succ]
  refine pickL (v := .agg #[.int .i64 S.rg.rk, .int .u64 S.rg.kn]) 5 (some 49) rfl rfl (by kernel_rfl) (by kernel_rfl) (by kernel_rfl) (by decide) (by kernel_rfl) (by kernel_rfl) (fun _ _ _ h => h) (by rfl) ?_ (by assumption) ?_
  · intro w' hSw
    obtain ⟨q0, q1⟩ := hSw
    exact exec_load rfl rfl (ld_rightk q0)
  try simp only [Act.put, List.setIfInBounds_toArray, List.set_cons_zero, List.set_cons_succ]
  refine oneL (i := 6) (by kernel_rfl) rfl (fun K hK => ?_)
  go_simp
  refine (kLess_any S.me.rk S.me.kn S.rg.rk S.rg.kn WD7).mono ?_
  rintro e' w7 ⟨rfl, hg⟩
  rw [H3.out]
  have I7 := hide (ID.out.below hg.below)
  have T7 := hide (TD.out.below hg.below)
  have J7 := hide (JD.out.below hg.below)
  have K7 := hide (KD.out.bel hg.below)
  clear hg
  refine hK.out _ _ ?_ ?_
  · exact ⟨I7.out, J7.out⟩
  clear hK K
  try simp only [Act.put, List.setIfInBounds_toArray, List.set_cons_zero, List.set_cons_succ]
  clear hHeld
  have hHeld : (fun w' => IsB w' b (spL S v).toArray 85 ∧ IsB w' H #[.int .i64 S.me.rk, .int .u64 S.me.kn] 27) w7 := ⟨I7.out, J7.out⟩
  refine pickA (v := ?_) 7 (some 43) rfl rfl (by kernel_rfl) (by kernel_rfl) (by kernel_rfl) (by decide) (fun _ _ _ h => h) (by rfl) ?_ (by assumption) ?_
  rotate_left
  · intro w'
    go_simp
    try with_reducible rfl
  try simp only [Act.put, List.setIfInBounds_toArray, List.set_cons_zero, List.set_cons_succ]
  refine doneL (by kernel_rfl) ?_ _
  clear hHeld
  clear ID TD JD KD WD7
  have I := I7
  have T := T7
  have J := J7
  have KZ := K7
  clear I7 T7 J7 K7
  obtain ⟨w9, hs9, I9, k9⟩ := st_at I.out 4
  have F6 : Hid (SpAt w9 b { S with pl := 4 } t) := ⟨v, I9, T.out.turn I.out k9⟩
  have K7 := hide (KZ.out.tr k9)
  have HS9 := hide hs9
  clear hs9 I9 k9 I T J
  go_wp2_with (first | (focus ((with_reducible refine wpList_store_w ?_ 82 (.tmp 53) (.const (.int .i64 4)) ?_ ?_ ?_ HS9.out ?_); rotate_left; rfl; rfl; rfl; rotate_left; rfl)))
  refine bodyPost_end (results_none rfl _ _ _) rfl ?_
  exact ⟨rfl, F6.out, K7.out⟩

set_option maxHeartbeats 2000000 in
set_option maxRecDepth 100000 in
theorem look_wait (b : Nat) (S : Sp) (t : Option Th) (h1 : klt (S.lf.rk, S.lf.kn) (S.rg.rk, S.rg.kn) = true) (h2 : klt (S.rg.rk, S.rg.kn) (S.me.rk, S.me.kn) = false) (h3 : klt (S.me.rk, S.me.kn) (S.rg.rk, S.rg.kn) = false) (h4 : 0 < S.wl) (w : World) (X : SpAt w b S t) : Calls Tryd.prog 39 #[.pointer (some ⟨b, 0, none⟩)] w fun e' w' => e' = .returned (.tuple #[]) ∧ SpAt w' b (S.free t .wait).1 (S.free t .wait).2 ∧ Kp [b] w w' := by
  have mixed : Tryd.prog.follows .mixedOrders = true := by kernel_rfl
  have b1 := (Below.refl w.heap.size w).alloc (Nat.le_refl _) (.cells #[.int .i64 S.me.rk, .int .u64 S.me.kn] 27)
  have J := hide (IsB.new w #[.int .i64 S.me.rk, .int .u64 S.me.kn] 27)
  obtain ⟨v, I0, T0⟩ := X.below b1
  have LM : Hid ((Instr.loadAt 27 (.pointer (some ⟨b, 3, none⟩))).run Tryd.prog w = .ok (.agg #[.int .i64 S.me.rk, .int .u64 S.me.kn]) w) := by obtain ⟨v, I, -⟩ := X; exact ld_mek I
  have I := hide I0
  have T := hide T0
  have KZ : Hid (Kp [b] w (w.alloc (.cells #[.int .i64 S.me.rk, .int .u64 S.me.kn] 27))) := Kp.of_below b1
  clear b1 X I0 T0
  have H1 := hide h1
  have H2 := hide h2
  have H3 := hide h3
  clear h1 h2 h3
  have hw4 := h4
  replace h4 := hide h4
  go_enter Tryd.func39, Tryd.ntmps39
  go_wp2_with (first | (focus ((with_reducible refine wpList_load_w ?_ 27 (.tmp 8) ?_ ?_ LM.out ?_); rotate_left; rfl; rfl; rotate_left; rfl)))
  generalize (w.alloc (.cells #[.int .i64 S.me.rk, .int .u64 S.me.kn] 27)) = WA at *
  generalize w.heap.size = H at *
  clear LM
  clear hw4
  have ID := hide (I.out.below ((Below.refl _ _).drew))
  have TD := hide (T.out.below ((Below.refl _ _).drew))
  have JD := hide (J.out.below ((Below.refl _ _).drew))
  have KD := hide (KZ.out.bel ((Below.refl _ _).drew))
  clear I T J KZ
  refine regionL 13 (fun w' => IsB w' b (spL S v).toArray 85 ∧ IsB w' H #[.int .i64 S.me.rk, .int .u64 S.me.kn] 27) mixed ⟨ID.out, JD.out⟩ (fun hHeld => ?_)
  generalize WA.drew = WD2 at *
  refine pickA (v := ?_) 0 (some 14) rfl rfl (by kernel_rfl) (by kernel_rfl) (by kernel_rfl) (by decide) (fun _ _ _ h => h) (by rfl) ?_ (by assumption) ?_
  rotate_left
  · intro w'
    go_simp
    try with_reducible rfl
  try simp only [Act.put, List.setIfInBounds_toArray, List.set_cons_zero, List.set_cons_succ]
  refine pickA (v := ?_) 1 (some 15) rfl rfl (by kernel_rfl) (by kernel_rfl) (by kernel_rfl) (by decide) (fun _ _ _ h => h) (by rfl) ?_ (by assumption) ?_
  rotate_left
  · intro w'
    go_simp
    try with_reducible rfl
  try simp only [Act.put, List.setIfInBounds_toArray, List.set_cons_zero, List.set_cons_succ]
  refine pickA (v := ?_) 2 (some 16) rfl rfl (by kernel_rfl) (by kernel_rfl) (by kernel_rfl) (by decide) (fun _ _ _ h => h) (by rfl) ?_ (by assumption) ?_
  rotate_left
  · intro w'
    go_simp
    try with_reducible rfl
  try simp only [Act.put, List.setIfInBounds_toArray, List.set_cons_zero, List.set_cons_succ]
  refine pickA (v := ?_) 3 (some 17) rfl rfl (by kernel_rfl) (by kernel_rfl) (by kernel_rfl) (by decide) (fun _ _ _ h => h) (by rfl) ?_ (by assumption) ?_
  rotate_left
  · intro w'
    go_simp
    try with_reducible rfl
  try simp only [Act.put, List.setIfInBounds_toArray, List.set_cons_zero, List.set_cons_succ]
  refine pickL (v := .agg #[.int .i64 S.lf.rk, .int .u64 S.lf.kn]) 4 (some 18) rfl rfl (by kernel_rfl) (by kernel_rfl) (by kernel_rfl) (by decide) (by kernel_rfl) (by kernel_rfl) (fun _ _ _ h => h) (by rfl) ?_ (by assumption) ?_
  · intro w' hSw
    obtain ⟨q0, q1⟩ := hSw
    exact exec_load rfl rfl (ld_leftk q0)
  try simp only [Act.put, List.setIfInBounds_toArray, List.set_cons_zero, List.set_cons_succ]
  refine pickA (v := ?_) 5 (some 19) rfl rfl (by kernel_rfl) (by kernel_rfl) (by kernel_rfl) (by decide) (fun _ _ _ h => h) (by rfl) ?_ (by assumption) ?_
  rotate_left
  · intro w'
    go_simp
    try with_reducible rfl
  try simp only [Act.put, List.setIfInBounds_toArray, List.set_cons_zero, List.set_cons_succ]
  refine pickA (v := ?_) 6 (some 20) rfl rfl (by kernel_rfl) (by kernel_rfl) (by kernel_rfl) (by decide) (fun _ _ _ h => h) (by rfl) ?_ (by assumption) ?_
  rotate_left
  · intro w'
    go_simp
    try with_reducible rfl
  try simp only [Act.put, List.setIfInBounds_toArray, List.set_cons_zero, List.set_cons_succ]
  refine pickA (v := ?_) 7 (some 21) rfl rfl (by kernel_rfl) (by kernel_rfl) (by kernel_rfl) (by decide) (fun _ _ _ h => h) (by rfl) ?_ (by assumption) ?_
  rotate_left
  · intro w'
    go_simp
    try with_reducible rfl
  try simp only [Act.put, List.setIfInBounds_toArray, List.set_cons_zero, List.set_cons_succ]
  refine pickA (v := ?_) 8 (some 22) rfl rfl (by kernel_rfl) (by kernel_rfl) (by kernel_rfl) (by decide) (fun _ _ _ h => h) (by rfl) ?_ (by assumption) ?_
  rotate_left
  · intro w'
    go_simp
    try with_reducible rfl
  try simp only [Act.put, List.setIfInBounds_toArray, List.set_cons_zero, List.set_cons_succ]
  refine pickL (v := .agg #[.int .i64 S.rg.rk, .int .u64 S.rg.kn]) 9 (some 23) rfl rfl (by kernel_rfl) (by kernel_rfl) (by kernel_rfl) (by decide) (by kernel_rfl) (by kernel_rfl) (fun _ _ _ h => h) (by rfl) ?_ (by assumption) ?_
  · intro w' hSw
    obtain ⟨q0, q1⟩ := hSw
    exact exec_load rfl rfl (ld_rightk q0)
  try simp only [Act.put, List.setIfInBounds_toArray, List.set_cons_zero, List.set_cons_succ]
  refine oneL (i := 10) (by kernel_rfl) rfl (fun K hK => ?_)
  go_simp
  refine (kLess_any S.lf.rk S.lf.kn S.rg.rk S.rg.kn WD2).mono ?_
  rintro e' w2 ⟨rfl, hg⟩
  rw [H1.out]
  have I2 := hide (ID.out.below hg.below)
  have T2 := hide (TD.out.below hg.below)
  have J2 := hide (JD.out.below hg.below)
  have K2 := hide (KD.out.bel hg.below)
  clear hg
  refine hK.out _ _ ?_ ?_
  · exact ⟨I2.out, J2.out⟩
  clear hK K
  try simp only [Act.put, List.setIfInBounds_toArray, List.set_cons_zero, List.set_cons_succ]
  clear hHeld
  have hHeld : (fun w' => IsB w' b (spL S v).toArray 85 ∧ IsB w' H #[.int .i64 S.me.rk, .int .u64 S.me.kn] 27) w2 := ⟨I2.out, J2.out⟩
  refine pickA (v := ?_) 11 (some 25) rfl rfl (by kernel_rfl) (by kernel_rfl) (by kernel_rfl) (by decide) (fun _ _ _ h => h) (by rfl) ?_ (by assumption) ?_
  rotate_left
  · intro w'
    go_simp
    try with_reducible rfl
  try simp only [Act.put, List.setIfInBounds_toArray, List.set_cons_zero, List.set_cons_succ]
  refine pickA (v := ?_) 12 (some 13) rfl rfl (by kernel_rfl) (by kernel_rfl) (by kernel_rfl) (by decide) (fun _ _ _ h => h) (by rfl) ?_ (by assumption) ?_
  rotate_left
  · intro w'
    go_simp
    try with_reducible rfl
  try simp only [Act.put, List.setIfInBounds_toArray, List.set_cons_zero, List.set_cons_succ]
  refine doneL (by kernel_rfl) ?_ _
  clear hHeld
  clear ID TD JD KD WD2
  have I := I2
  have T := T2
  have J := J2
  have KZ := K2
  clear I2 T2 J2 K2
  go_wp2_with fail
  have ID := hide (I.out.below ((Below.refl _ _).drew))
  have TD := hide (T.out.below ((Below.refl _ _).drew))
  have JD := hide (J.out.below ((Below.refl _ _).drew))
  have KD := hide (KZ.out.bel ((Below.refl _ _).drew))
  clear I T J KZ
  refine regionL 8 (fun w' => IsB w' b (spL S v).toArray 85 ∧ IsB w' H #[.int .i64 S.me.rk, .int .u64 S.me.kn] 27) mixed ⟨ID.out, JD.out⟩ (fun hHeld => ?_)
  generalize w2.drew = WD4 at *
  refine pickA (v := ?_) 0 (some 29) rfl rfl (by kernel_rfl) (by kernel_rfl) (by kernel_rfl) (by decide) (fun _ _ _ h => h) (by rfl) ?_ (by assumption) ?_
  rotate_left
  · intro w'
    go_simp
    try with_reducible rfl
  try simp only [Act.put, List.setIfInBounds_toArray, List.set_cons_zero, List.set_cons_succ]
  refine pickA (v := ?_) 1 (some 30) rfl rfl (by kernel_rfl) (by kernel_rfl) (by kernel_rfl) (by decide) (fun _ _ _ h => h) (by rfl) ?_ (by assumption) ?_
  rotate_left
  · intro w'
    go_simp
    try with_reducible rfl
  try simp only [Act.put, List.setIfInBounds_toArray, List.set_cons_zero, List.set_cons_succ]
  refine pickA (v := ?_) 2 (some 31) rfl rfl (by kernel_rfl) (by kernel_rfl) (by kernel_rfl) (by decide) (fun _ _ _ h => h) (by rfl) ?_ (by assumption) ?_
  rotate_left
  · intro w'
    go_simp
    try with_reducible rfl
  try simp only [Act.put, List.setIfInBounds_toArray, List.set_cons_zero, List.set_cons_succ]
  refine pickA (v := ?_) 3 (some 32) rfl rfl (by kernel_rfl) (by kernel_rfl) (by kernel_rfl) (by decide) (fun _ _ _ h => h) (by rfl) ?_ (by assumption) ?_
  rotate_left
  · intro w'
    go_simp
    try with_reducible rfl
  try simp only [Act.put, List.setIfInBounds_toArray, List.set_cons_zero, List.set_cons_succ]
  refine pickL (v := .agg #[.int .i64 S.rg.rk, .int .u64 S.rg.kn]) 4 (some 33) rfl rfl (by kernel_rfl) (by kernel_rfl) (by kernel_rfl) (by decide) (by kernel_rfl) (by kernel_rfl) (fun _ _ _ h => h) (by rfl) ?_ (by assumption) ?_
  · intro w' hSw
    obtain ⟨q0, q1⟩ := hSw
    exact exec_load rfl rfl (ld_rightk q0)
  try simp only [Act.put, List.setIfInBounds_toArray, List.set_cons_zero, List.set_cons_succ]
  refine pickL (v := .agg #[.int .i64 S.me.rk, .int .u64 S.me.kn]) 5 (some 34) rfl rfl (by kernel_rfl) (by kernel_rfl) (by kernel_rfl) (by decide) (by kernel_rfl) (by kernel_rfl) (fun _ _ _ h => h) (by rfl) ?_ (by assumption) ?_
  · intro w' hSw
    obtain ⟨q0, q1⟩ := hSw
    exact exec_load rfl rfl (ld_key2 q1)
  try simp only [Act.put, List.setIfInBounds_toArray, List.set_cons_zero, List.set_cons_succ]
  refine oneL (i := 6) (by kernel_rfl) rfl (fun K hK => ?_)
  go_simp
  refine (kLess_any S.rg.rk S.rg.kn S.me.rk S.me.kn WD4).mono ?_
  rintro e' w4 ⟨rfl, hg⟩
  rw [H2.out]
  have I4 := hide (ID.out.below hg.below)
  have T4 := hide (TD.out.below hg.below)
  have J4 := hide (JD.out.below hg.below)
  have K4 := hide (KD.out.bel hg.below)
  clear hg
  refine hK.out _ _ ?_ ?_
  · exact ⟨I4.out, J4.out⟩
  clear hK K
  try simp only [Act.put, List.setIfInBounds_toArray, List.set_cons_zero, List.set_cons_succ]
  clear hHeld
  have hHeld : (fun w' => IsB w' b (spL S v).toArray 85 ∧ IsB w' H #[.int .i64 S.me.rk, .int .u64 S.me.kn] 27) w4 := ⟨I4.out, J4.out⟩
  refine pickA (v := ?_) 7 (some 28) rfl rfl (by kernel_rfl) (by kernel_rfl) (by kernel_rfl) (by decide) (fun _ _ _ h => h) (by rfl) ?_ (by assumption) ?_
  rotate_left
  · intro w'
    go_simp
    try with_reducible rfl
  try simp only [Act.put, List.setIfInBounds_toArray, List.set_cons_zero, List.set_cons_succ]
  refine doneL (by kernel_rfl) ?_ _
  clear hHeld
  clear ID TD JD KD WD4
  have I := I4
  have T := T4
  have J := J4
  have KZ := K4
  clear I4 T4 J4 K4
  go_wp2_with fail
  have ID := hide (I.out.below ((Below.refl _ _).drew))
  have TD := hide (T.out.below ((Below.refl _ _).drew))
  have JD := hide (J.out.below ((Below.refl _ _).drew))
  have KD := hide (KZ.out.bel ((Below.refl _ _).drew))
  clear I T J KZ
  refine regionL 8 (fun w' => IsB w' b (spL S v).toArray 85 ∧ IsB w' H #[.int .i64 S.me.rk, .int .u64 S.me.kn] 27) mixed ⟨ID.out, JD.out⟩ (fun hHeld => ?_)
  generalize w4.drew = WD7 at *
  refine pickL (v := .agg #[.int .i64 S.me.rk, .int .u64 S.me.kn]) 0 (some 44) rfl rfl (by kernel_rfl) (by kernel_rfl) (by kernel_rfl) (by decide) (by kernel_rfl) (by kernel_rfl) (fun _ _ _ h => h) (by rfl) ?_ (by assumption) ?_
  · intro w' hSw
    obtain ⟨q0, q1⟩ := hSw
    exact exec_load rfl rfl (ld_key2 q1)
  try simp only [Act.put, List.setIfInBounds_toArray, List.set_cons_zero, List.set_cons_succ]
  refine pickA (v := ?_) 1 (some 45) rfl rfl (by kernel_rfl) (by kernel_rfl) (by kernel_rfl) (by decide) (fun _ _ _ h => h) (by rfl) ?_ (by assumption) ?_
  rotate_left
  · intro w'
    go_simp
    try with_reducible rfl
  try simp only [Act.put, List.setIfInBounds_toArray, List.set_cons_zero, List.set_cons_succ]
  refine pickA (v := ?_) 2 (some 46) rfl rfl (by kernel_rfl) (by kernel_rfl) (by kernel_rfl) (by decide) (fun _ _ _ h => h) (by rfl) ?_ (by assumption) ?_
  rotate_left
  · intro w'
    go_simp
    try with_reducible rfl
  try simp only [Act.put, List.setIfInBounds_toArray, List.set_cons_zero, List.set_cons_succ]
  refine pickA (v := ?_) 3 (some 47) rfl rfl (by kernel_rfl) (by kernel_rfl) (by kernel_rfl) (by decide) (fun _ _ _ h => h) (by rfl) ?_ (by assumption) ?_
  rotate_left
  · intro w'
    go_simp
    try with_reducible rfl
  try simp only [Act.put, List.setIfInBounds_toArray, List.set_cons_zero, List.set_cons_succ]
  refine pickA (v := ?_) 4 (some 48) rfl rfl (by kernel_rfl) (by kernel_rfl) (by kernel_rfl) (by decide) (fun _ _ _ h => h) (by rfl) ?_ (by assumption) ?_
  rotate_left
  · intro w'
    go_simp
    try with_reducible rfl
  try simp only [Act.put, List.setIfInBounds_toArray, List.set_cons_zero, List.set_cons_succ]
  refine pickL (v := .agg #[.int .i64 S.rg.rk, .int .u64 S.rg.kn]) 5 (some 49) rfl rfl (by kernel_rfl) (by kernel_rfl) (by kernel_rfl) (by decide) (by kernel_rfl) (by kernel_rfl) (fun _ _ _ h => h) (by rfl) ?_ (by assumption) ?_
  · intro w' hSw
    obtain ⟨q0, q1⟩ := hSw
    exact exec_load rfl rfl (ld_rightk q0)
  try simp only [Act.put, List.setIfInBounds_toArray, List.set_cons_zero, List.set_cons_succ]
  refine oneL (i := 6) (by kernel_rfl) rfl (fun K hK => ?_)
  go_simp
  refine (kLess_any S.me.rk S.me.kn S.rg.rk S.rg.kn WD7).mono ?_
  rintro e' w7 ⟨rfl, hg⟩
  rw [H3.out]
  have I7 := hide (ID.out.below hg.below)
  have T7 := hide (TD.out.below hg.below)
  have J7 := hide (JD.out.below hg.below)
  have K7 := hide (KD.out.bel hg.below)
  clear hg
  refine hK.out _ _ ?_ ?_
  · exact ⟨I7.out, J7.out⟩
  clear hK K
  try simp only [Act.put, List.setIfInBounds_toArray, List.set_cons_zero, List.set_cons_succ]
  clear hHeld
  have hHeld : (fun w' => IsB w' b (spL S v).toArray 85 ∧ IsB w' H #[.int .i64 S.me.rk, .int .u64 S.me.kn] 27) w7 := ⟨I7.out, J7.out⟩
  refine pickA (v := ?_) 7 (some 43) rfl rfl (by kernel_rfl) (by kernel_rfl) (by kernel_rfl) (by decide) (fun _ _ _ h => h) (by rfl) ?_ (by assumption) ?_
  rotate_left
  · intro w'
    go_simp
    try with_reducible rfl
  try simp only [Act.put, List.setIfInBounds_toArray, List.set_cons_zero, List.set_cons_succ]
  refine doneL (by kernel_rfl) ?_ _
  clear hHeld
  clear ID TD JD KD WD7
  have I := I7
  have T := T7
  have J := J7
  have KZ := K7
  clear I7 T7 J7 K7
  have y0 := cl_wl I.out
  have d4 : decide (S.wl > 0) = true := by simpa using h4.out
  have d5 : decide (0 < S.wl) = true := by simpa using h4.out
  generalize hg : S.wl = wl at *
  replace hg := hide hg
  go_wp2_with fail
  have X1 : Hid (SpAt w7 b S t) := ⟨v, I.out, T.out⟩
  refine (freeWait_any b S t _ X1.out).mono ?_
  rintro e' w6 ⟨rfl, X6, K6⟩
  have F6 := hide X6
  have K7 := hide (KZ.out.tr K6)
  clear X6 K6
  go_wp2
  refine bodyPost_end (results_none rfl _ _ _) rfl ?_
  exact ⟨rfl, F6.out, K7.out⟩

set_option maxHeartbeats 2000000 in
set_option maxRecDepth 100000 in
theorem look_same (b : Nat) (S : Sp) (t : Option Th) (h1 : klt (S.lf.rk, S.lf.kn) (S.rg.rk, S.rg.kn) = true) (h2 : klt (S.rg.rk, S.rg.kn) (S.me.rk, S.me.kn) = false) (h3 : klt (S.me.rk, S.me.kn) (S.rg.rk, S.rg.kn) = false) (h4 : ¬0 < S.wl) (w : World) (X : SpAt w b S t) : Calls Tryd.prog 39 #[.pointer (some ⟨b, 0, none⟩)] w fun e' w' => e' = .returned (.tuple #[]) ∧ SpAt w' b { S with pl := 3 } t ∧ Kp [b] w w' := by
  have mixed : Tryd.prog.follows .mixedOrders = true := by kernel_rfl
  have b1 := (Below.refl w.heap.size w).alloc (Nat.le_refl _) (.cells #[.int .i64 S.me.rk, .int .u64 S.me.kn] 27)
  have J := hide (IsB.new w #[.int .i64 S.me.rk, .int .u64 S.me.kn] 27)
  obtain ⟨v, I0, T0⟩ := X.below b1
  have LM : Hid ((Instr.loadAt 27 (.pointer (some ⟨b, 3, none⟩))).run Tryd.prog w = .ok (.agg #[.int .i64 S.me.rk, .int .u64 S.me.kn]) w) := by obtain ⟨v, I, -⟩ := X; exact ld_mek I
  have I := hide I0
  have T := hide T0
  have KZ : Hid (Kp [b] w (w.alloc (.cells #[.int .i64 S.me.rk, .int .u64 S.me.kn] 27))) := Kp.of_below b1
  clear b1 X I0 T0
  have H1 := hide h1
  have H2 := hide h2
  have H3 := hide h3
  clear h1 h2 h3
  replace h4 := hide h4
  go_enter Tryd.func39, Tryd.ntmps39
  go_wp2_with (first | (focus ((with_reducible refine wpList_load_w ?_ 27 (.tmp 8) ?_ ?_ LM.out ?_); rotate_left; rfl; rfl; rotate_left; rfl)))
  generalize (w.alloc (.cells #[.int .i64 S.me.rk, .int .u64 S.me.kn] 27)) = WA at *
  generalize w.heap.size = H at *
  clear LM
  have ID := hide (I.out.below ((Below.refl _ _).drew))
  have TD := hide (T.out.below ((Below.refl _ _).drew))
  have JD := hide (J.out.below ((Below.refl _ _).drew))
  have KD := hide (KZ.out.bel ((Below.refl _ _).drew))
  clear I T J KZ
  refine regionL 13 (fun w' => IsB w' b (spL S v).toArray 85 ∧ IsB w' H #[.int .i64 S.me.rk, .int .u64 S.me.kn] 27) mixed ⟨ID.out, JD.out⟩ (fun hHeld => ?_)
  generalize WA.drew = WD2 at *
  refine pickA (v := ?_) 0 (some 14) rfl rfl (by kernel_rfl) (by kernel_rfl) (by kernel_rfl) (by decide) (fun _ _ _ h => h) (by rfl) ?_ (by assumption) ?_
  rotate_left
  · intro w'
    go_simp
    try with_reducible rfl
  try simp only [Act.put, List.setIfInBounds_toArray, List.set_cons_zero, List.set_cons_succ]
  refine pickA (v := ?_) 1 (some 15) rfl rfl (by kernel_rfl) (by kernel_rfl) (by kernel_rfl) (by decide) (fun _ _ _ h => h) (by rfl) ?_ (by assumption) ?_
  rotate_left
  · intro w'
    go_simp
    try with_reducible rfl
  try simp only [Act.put, List.setIfInBounds_toArray, List.set_cons_zero, List.set_cons_succ]
  refine pickA (v := ?_) 2 (some 16) rfl rfl (by kernel_rfl) (by kernel_rfl) (by kernel_rfl) (by decide) (fun _ _ _ h => h) (by rfl) ?_ (by assumption) ?_
  rotate_left
  · intro w'
    go_simp
    try with_reducible rfl
  try simp only [Act.put, List.setIfInBounds_toArray, List.set_cons_zero, List.set_cons_succ]
  refine pickA (v := ?_) 3 (some 17) rfl rfl (by kernel_rfl) (by kernel_rfl) (by kernel_rfl) (by decide) (fun _ _ _ h => h) (by rfl) ?_ (by assumption) ?_
  rotate_left
  · intro w'
    go_simp
    try with_reducible rfl
  try simp only [Act.put, List.setIfInBounds_toArray, List.set_cons_zero, List.set_cons_succ]
  refine pickL (v := .agg #[.int .i64 S.lf.rk, .int .u64 S.lf.kn]) 4 (some 18) rfl rfl (by kernel_rfl) (by kernel_rfl) (by kernel_rfl) (by decide) (by kernel_rfl) (by kernel_rfl) (fun _ _ _ h => h) (by rfl) ?_ (by assumption) ?_
  · intro w' hSw
    obtain ⟨q0, q1⟩ := hSw
    exact exec_load rfl rfl (ld_leftk q0)
  try simp only [Act.put, List.setIfInBounds_toArray, List.set_cons_zero, List.set_cons_succ]
  refine pickA (v := ?_) 5 (some 19) rfl rfl (by kernel_rfl) (by kernel_rfl) (by kernel_rfl) (by decide) (fun _ _ _ h => h) (by rfl) ?_ (by assumption) ?_
  rotate_left
  · intro w'
    go_simp
    try with_reducible rfl
  try simp only [Act.put, List.setIfInBounds_toArray, List.set_cons_zero, List.set_cons_succ]
  refine pickA (v := ?_) 6 (some 20) rfl rfl (by kernel_rfl) (by kernel_rfl) (by kernel_rfl) (by decide) (fun _ _ _ h => h) (by rfl) ?_ (by assumption) ?_
  rotate_left
  · intro w'
    go_simp
    try with_reducible rfl
  try simp only [Act.put, List.setIfInBounds_toArray, List.set_cons_zero, List.set_cons_succ]
  refine pickA (v := ?_) 7 (some 21) rfl rfl (by kernel_rfl) (by kernel_rfl) (by kernel_rfl) (by decide) (fun _ _ _ h => h) (by rfl) ?_ (by assumption) ?_
  rotate_left
  · intro w'
    go_simp
    try with_reducible rfl
  try simp only [Act.put, List.setIfInBounds_toArray, List.set_cons_zero, List.set_cons_succ]
  refine pickA (v := ?_) 8 (some 22) rfl rfl (by kernel_rfl) (by kernel_rfl) (by kernel_rfl) (by decide) (fun _ _ _ h => h) (by rfl) ?_ (by assumption) ?_
  rotate_left
  · intro w'
    go_simp
    try with_reducible rfl
  try simp only [Act.put, List.setIfInBounds_toArray, List.set_cons_zero, List.set_cons_succ]
  refine pickL (v := .agg #[.int .i64 S.rg.rk, .int .u64 S.rg.kn]) 9 (some 23) rfl rfl (by kernel_rfl) (by kernel_rfl) (by kernel_rfl) (by decide) (by kernel_rfl) (by kernel_rfl) (fun _ _ _ h => h) (by rfl) ?_ (by assumption) ?_
  · intro w' hSw
    obtain ⟨q0, q1⟩ := hSw
    exact exec_load rfl rfl (ld_rightk q0)
  try simp only [Act.put, List.setIfInBounds_toArray, List.set_cons_zero, List.set_cons_succ]
  refine oneL (i := 10) (by kernel_rfl) rfl (fun K hK => ?_)
  go_simp
  refine (kLess_any S.lf.rk S.lf.kn S.rg.rk S.rg.kn WD2).mono ?_
  rintro e' w2 ⟨rfl, hg⟩
  rw [H1.out]
  have I2 := hide (ID.out.below hg.below)
  have T2 := hide (TD.out.below hg.below)
  have J2 := hide (JD.out.below hg.below)
  have K2 := hide (KD.out.bel hg.below)
  clear hg
  refine hK.out _ _ ?_ ?_
  · exact ⟨I2.out, J2.out⟩
  clear hK K
  try simp only [Act.put, List.setIfInBounds_toArray, List.set_cons_zero, List.set_cons_succ]
  clear hHeld
  have hHeld : (fun w' => IsB w' b (spL S v).toArray 85 ∧ IsB w' H #[.int .i64 S.me.rk, .int .u64 S.me.kn] 27) w2 := ⟨I2.out, J2.out⟩
  refine pickA (v := ?_) 11 (some 25) rfl rfl (by kernel_rfl) (by kernel_rfl) (by kernel_rfl) (by decide) (fun _ _ _ h => h) (by rfl) ?_ (by assumption) ?_
  rotate_left
  · intro w'
    go_simp
    try with_reducible rfl
  try simp only [Act.put, List.setIfInBounds_toArray, List.set_cons_zero, List.set_cons_succ]
  refine pickA (v := ?_) 12 (some 13) rfl rfl (by kernel_rfl) (by kernel_rfl) (by kernel_rfl) (by decide) (fun _ _ _ h => h) (by rfl) ?_ (by assumption) ?_
  rotate_left
  · intro w'
    go_simp
    try with_reducible rfl
  try simp only [Act.put, List.setIfInBounds_toArray, List.set_cons_zero, List.set_cons_succ]
  refine doneL (by kernel_rfl) ?_ _
  clear hHeld
  clear ID TD JD KD WD2
  have I := I2
  have T := T2
  have J := J2
  have KZ := K2
  clear I2 T2 J2 K2
  go_wp2_with fail
  have ID := hide (I.out.below ((Below.refl _ _).drew))
  have TD := hide (T.out.below ((Below.refl _ _).drew))
  have JD := hide (J.out.below ((Below.refl _ _).drew))
  have KD := hide (KZ.out.bel ((Below.refl _ _).drew))
  clear I T J KZ
  refine regionL 8 (fun w' => IsB w' b (spL S v).toArray 85 ∧ IsB w' H #[.int .i64 S.me.rk, .int .u64 S.me.kn] 27) mixed ⟨ID.out, JD.out⟩ (fun hHeld => ?_)
  generalize w2.drew = WD4 at *
  refine pickA (v := ?_) 0 (some 29) rfl rfl (by kernel_rfl) (by kernel_rfl) (by kernel_rfl) (by decide) (fun _ _ _ h => h) (by rfl) ?_ (by assumption) ?_
  rotate_left
  · intro w'
    go_simp
    try with_reducible rfl
  try simp only [Act.put, List.setIfInBounds_toArray, List.set_cons_zero, List.set_cons_succ]
  refine pickA (v := ?_) 1 (some 30) rfl rfl (by kernel_rfl) (by kernel_rfl) (by kernel_rfl) (by decide) (fun _ _ _ h => h) (by rfl) ?_ (by assumption) ?_
  rotate_left
  · intro w'
    go_simp
    try with_reducible rfl
  try simp only [Act.put, List.setIfInBounds_toArray, List.set_cons_zero, List.set_cons_succ]
  refine pickA (v := ?_) 2 (some 31) rfl rfl (by kernel_rfl) (by kernel_rfl) (by kernel_rfl) (by decide) (fun _ _ _ h => h) (by rfl) ?_ (by assumption) ?_
  rotate_left
  · intro w'
    go_simp
    try with_reducible rfl
  try simp only [Act.put, List.setIfInBounds_toArray, List.set_cons_zero, List.set_cons_succ]
  refine pickA (v := ?_) 3 (some 32) rfl rfl (by kernel_rfl) (by kernel_rfl) (by kernel_rfl) (by decide) (fun _ _ _ h => h) (by rfl) ?_ (by assumption) ?_
  rotate_left
  · intro w'
    go_simp
    try with_reducible rfl
  try simp only [Act.put, List.setIfInBounds_toArray, List.set_cons_zero, List.set_cons_succ]
  refine pickL (v := .agg #[.int .i64 S.rg.rk, .int .u64 S.rg.kn]) 4 (some 33) rfl rfl (by kernel_rfl) (by kernel_rfl) (by kernel_rfl) (by decide) (by kernel_rfl) (by kernel_rfl) (fun _ _ _ h => h) (by rfl) ?_ (by assumption) ?_
  · intro w' hSw
    obtain ⟨q0, q1⟩ := hSw
    exact exec_load rfl rfl (ld_rightk q0)
  try simp only [Act.put, List.setIfInBounds_toArray, List.set_cons_zero, List.set_cons_succ]
  refine pickL (v := .agg #[.int .i64 S.me.rk, .int .u64 S.me.kn]) 5 (some 34) rfl rfl (by kernel_rfl) (by kernel_rfl) (by kernel_rfl) (by decide) (by kernel_rfl) (by kernel_rfl) (fun _ _ _ h => h) (by rfl) ?_ (by assumption) ?_
  · intro w' hSw
    obtain ⟨q0, q1⟩ := hSw
    exact exec_load rfl rfl (ld_key2 q1)
  try simp only [Act.put, List.setIfInBounds_toArray, List.set_cons_zero, List.set_cons_succ]
  refine oneL (i := 6) (by kernel_rfl) rfl (fun K hK => ?_)
  go_simp
  refine (kLess_any S.rg.rk S.rg.kn S.me.rk S.me.kn WD4).mono ?_
  rintro e' w4 ⟨rfl, hg⟩
  rw [H2.out]
  have I4 := hide (ID.out.below hg.below)
  have T4 := hide (TD.out.below hg.below)
  have J4 := hide (JD.out.below hg.below)
  have K4 := hide (KD.out.bel hg.below)
  clear hg
  refine hK.out _ _ ?_ ?_
  · exact ⟨I4.out, J4.out⟩
  clear hK K
  try simp only [Act.put, List.setIfInBounds_toArray, List.set_cons_zero, List.set_cons_succ]
  clear hHeld
  have hHeld : (fun w' => IsB w' b (spL S v).toArray 85 ∧ IsB w' H #[.int .i64 S.me.rk, .int .u64 S.me.kn] 27) w4 := ⟨I4.out, J4.out⟩
  refine pickA (v := ?_) 7 (some 28) rfl rfl (by kernel_rfl) (by kernel_rfl) (by kernel_rfl) (by decide) (fun _ _ _ h => h) (by rfl) ?_ (by assumption) ?_
  rotate_left
  · intro w'
    go_simp
    try with_reducible rfl
  try simp only [Act.put, List.setIfInBounds_toArray, List.set_cons_zero, List.set_cons_succ]
  refine doneL (by kernel_rfl) ?_ _
  clear hHeld
  clear ID TD JD KD WD4
  have I := I4
  have T := T4
  have J := J4
  have KZ := K4
  clear I4 T4 J4 K4
  go_wp2_with fail
  have ID := hide (I.out.below ((Below.refl _ _).drew))
  have TD := hide (T.out.below ((Below.refl _ _).drew))
  have JD := hide (J.out.below ((Below.refl _ _).drew))
  have KD := hide (KZ.out.bel ((Below.refl _ _).drew))
  clear I T J KZ
  refine regionL 8 (fun w' => IsB w' b (spL S v).toArray 85 ∧ IsB w' H #[.int .i64 S.me.rk, .int .u64 S.me.kn] 27) mixed ⟨ID.out, JD.out⟩ (fun hHeld => ?_)
  generalize w4.drew = WD7 at *
  refine pickL (v := .agg #[.int .i64 S.me.rk, .int .u64 S.me.kn]) 0 (some 44) rfl rfl (by kernel_rfl) (by kernel_rfl) (by kernel_rfl) (by decide) (by kernel_rfl) (by kernel_rfl) (fun _ _ _ h => h) (by rfl) ?_ (by assumption) ?_
  · intro w' hSw
    obtain ⟨q0, q1⟩ := hSw
    exact exec_load rfl rfl (ld_key2 q1)
  try simp only [Act.put, List.setIfInBounds_toArray, List.set_cons_zero, List.set_cons_succ]
  refine pickA (v := ?_) 1 (some 45) rfl rfl (by kernel_rfl) (by kernel_rfl) (by kernel_rfl) (by decide) (fun _ _ _ h => h) (by rfl) ?_ (by assumption) ?_
  rotate_left
  · intro w'
    go_simp
    try with_reducible rfl
  try simp only [Act.put, List.setIfInBounds_toArray, List.set_cons_zero, List.set_cons_succ]
  refine pickA (v := ?_) 2 (some 46) rfl rfl (by kernel_rfl) (by kernel_rfl) (by kernel_rfl) (by decide) (fun _ _ _ h => h) (by rfl) ?_ (by assumption) ?_
  rotate_left
  · intro w'
    go_simp
    try with_reducible rfl
  try simp only [Act.put, List.setIfInBounds_toArray, List.set_cons_zero, List.set_cons_succ]
  refine pickA (v := ?_) 3 (some 47) rfl rfl (by kernel_rfl) (by kernel_rfl) (by kernel_rfl) (by decide) (fun _ _ _ h => h) (by rfl) ?_ (by assumption) ?_
  rotate_left
  · intro w'
    go_simp
    try with_reducible rfl
  try simp only [Act.put, List.setIfInBounds_toArray, List.set_cons_zero, List.set_cons_succ]
  refine pickA (v := ?_) 4 (some 48) rfl rfl (by kernel_rfl) (by kernel_rfl) (by kernel_rfl) (by decide) (fun _ _ _ h => h) (by rfl) ?_ (by assumption) ?_
  rotate_left
  · intro w'
    go_simp
    try with_reducible rfl
  try simp only [Act.put, List.setIfInBounds_toArray, List.set_cons_zero, List.set_cons_succ]
  refine pickL (v := .agg #[.int .i64 S.rg.rk, .int .u64 S.rg.kn]) 5 (some 49) rfl rfl (by kernel_rfl) (by kernel_rfl) (by kernel_rfl) (by decide) (by kernel_rfl) (by kernel_rfl) (fun _ _ _ h => h) (by rfl) ?_ (by assumption) ?_
  · intro w' hSw
    obtain ⟨q0, q1⟩ := hSw
    exact exec_load rfl rfl (ld_rightk q0)
  try simp only [Act.put, List.setIfInBounds_toArray, List.set_cons_zero, List.set_cons_succ]
  refine oneL (i := 6) (by kernel_rfl) rfl (fun K hK => ?_)
  go_simp
  refine (kLess_any S.me.rk S.me.kn S.rg.rk S.rg.kn WD7).mono ?_
  rintro e' w7 ⟨rfl, hg⟩
  rw [H3.out]
  have I7 := hide (ID.out.below hg.below)
  have T7 := hide (TD.out.below hg.below)
  have J7 := hide (JD.out.below hg.below)
  have K7 := hide (KD.out.bel hg.below)
  clear hg
  refine hK.out _ _ ?_ ?_
  · exact ⟨I7.out, J7.out⟩
  clear hK K
  try simp only [Act.put, List.setIfInBounds_toArray, List.set_cons_zero, List.set_cons_succ]
  clear hHeld
  have hHeld : (fun w' => IsB w' b (spL S v).toArray 85 ∧ IsB w' H #[.int .i64 S.me.rk, .int .u64 S.me.kn] 27) w7 := ⟨I7.out, J7.out⟩
  refine pickA (v := ?_) 7 (some 43) rfl rfl (by kernel_rfl) (by kernel_rfl) (by kernel_rfl) (by decide) (fun _ _ _ h => h) (by rfl) ?_ (by assumption) ?_
  rotate_left
  · intro w'
    go_simp
    try with_reducible rfl
  try simp only [Act.put, List.setIfInBounds_toArray, List.set_cons_zero, List.set_cons_succ]
  refine doneL (by kernel_rfl) ?_ _
  clear hHeld
  clear ID TD JD KD WD7
  have I := I7
  have T := T7
  have J := J7
  have KZ := K7
  clear I7 T7 J7 K7
  obtain ⟨w9, hs9, I9, k9⟩ := st_at I.out 3
  have F6 : Hid (SpAt w9 b { S with pl := 3 } t) := ⟨v, I9, T.out.turn I.out k9⟩
  have K7 := hide (KZ.out.tr k9)
  have HS9 := hide hs9
  have y0 := cl_wl I.out
  clear hs9 I9 k9 I T J
  have d4 : decide (S.wl > 0) = false := by simpa using h4.out
  have d5 : decide (0 < S.wl) = false := by simpa using h4.out
  generalize hg : S.wl = wl at *
  replace hg := hide hg
  go_wp2_with (first | (focus ((with_reducible refine wpList_store_w ?_ 82 (.tmp 12) (.const (.int .i64 3)) ?_ ?_ ?_ HS9.out ?_); rotate_left; rfl; rfl; rfl; rotate_left; rfl)))
  refine bodyPost_end (results_none rfl _ _ _) rfl ?_
  have hg2 := hg.out
  subst hg2
  exact ⟨rfl, F6.out, K7.out⟩

theorem look_any (b : Nat) (S : Sp) (t : Option Th) (w : World) (X : SpAt w b S t) : Calls Tryd.prog 39 #[.pointer (some ⟨b, 0, none⟩)] w fun e' w' => e' = .returned (.tuple #[]) ∧ SpAt w' b (S.look t).1 (S.look t).2 ∧ Kp [b] w w' := by
  unfold Sp.look
  by_cases h1 : klt (S.lf.rk, S.lf.kn) (S.rg.rk, S.rg.kn) = false
  · rw [if_pos h1]; exact look_again b S t h1 w X
  rw [if_neg h1]
  replace h1 : klt (S.lf.rk, S.lf.kn) (S.rg.rk, S.rg.kn) = true := by simpa using h1
  by_cases h2 : klt (S.rg.rk, S.rg.kn) (S.me.rk, S.me.kn) = true
  · rw [if_pos h2]; exact look_go b S t h1 h2 w X
  rw [if_neg h2]
  replace h2 : klt (S.rg.rk, S.rg.kn) (S.me.rk, S.me.kn) = false := by simpa using h2
  by_cases h3 : klt (S.me.rk, S.me.kn) (S.rg.rk, S.rg.kn) = true
  · rw [if_pos h3]; exact look_enter b S t h1 h2 h3 w X
  rw [if_neg h3]
  replace h3 : klt (S.me.rk, S.me.kn) (S.rg.rk, S.rg.kn) = false := by simpa using h3
  by_cases h4 : 0 < S.wl
  · rw [if_pos h4]; exact look_wait b S t h1 h2 h3 h4 w X
  · rw [if_neg h4]; exact look_same b S t h1 h2 h3 h4 w X

/-- Told by the one to the left, whether Me stands to its right. -/
def Sp.hRight (S : Sp) (a : An) : Sp := if a.k = 1 ∨ a.k = 3 ∧ a.r.id = S.me.id then { S with dd := decide (a.k = 3), pl := 6 } else { S with dd := decide (a.k = 3), pl := 8 }

set_option maxHeartbeats 2000000 in
set_option maxRecDepth 100000 in
theorem right_ok (b : Nat) (S : Sp) (t : Option Th) (a : An) (hk : a.k = 1) (w : World) (X : SpAt w b S t) : Calls Tryd.prog 42 #[.pointer (some ⟨b, 0, none⟩), .agg (anL a).toArray] w fun e' w' => e' = .returned (.tuple #[]) ∧ SpAt w' b { S with dd := false, pl := 6 } t ∧ Kp [b] w w' := by
  have mixed : Tryd.prog.follows .mixedOrders = true := by kernel_rfl
  have b1 := (Below.refl w.heap.size w).alloc (Nat.le_refl _) (.cells (anL a).toArray 57)
  have AB := hide (IsB.new w (anL a).toArray 57)
  have X1 := hide (X.below b1)
  have KZ : Hid (Kp [b] w (w.alloc (.cells (anL a).toArray 57))) := Kp.of_below b1
  clear b1 X
  have y0 : (w.alloc (.cells (anL a).toArray 57)).cell? ⟨w.heap.size, 0, none⟩ = some (.int .i64 a.k) := cl_ak AB.out
  rw [hk] at y0
  replace hk := hide hk
  obtain ⟨v, I, T⟩ := X1.out
  obtain ⟨w2, hs2, I2, k2⟩ := st_dead I false
  have hne : b ≠ w.heap.size := fun e => IsB.ne_t I AB.out (by decide) e
  have A2 := hide (AB.out.kp k2 (by simpa using fun e => hne e.symm))
  have ID := hide (I2.below ((Below.refl _ _).drew))
  have T2 := hide (T.turn I k2)
  have AD := hide (A2.out.below ((Below.refl _ _).drew))
  have KD := hide ((KZ.out.tr k2).bel ((Below.refl _ _).drew))
  obtain ⟨w9, hs9, I9, k9⟩ := st_at ID.out 6
  have F6 : Hid (SpAt w9 b { S with dd := false, pl := 6 } t) := ⟨v, I9, (T2.out.below ((Below.refl _ _).drew)).turn ID.out k9⟩
  have K7 := hide (KD.out.tr k9)
  have HS2 := hide hs2
  have HS9 := hide hs9
  clear hs2 I2 k2 T I X1 KZ hs9 I9 k9 T2 A2 KD
  go_enter Tryd.func42, Tryd.ntmps42
  go_wp2_with (first | (focus ((with_reducible refine wpList_store_w ?_ 4 (.tmp 9) (.tmp 7) ?_ ?_ ?_ HS2.out ?_); rotate_left; rfl; rfl; rfl; rotate_left; rfl)))
  generalize w.heap.size = H at *
  clear y0
  refine regionL 21 (fun w' => IsB w' b (spL { S with dd := false } v).toArray 85 ∧ IsB w' H (anL a).toArray 57) mixed ⟨ID.out, AD.out⟩ (fun hHeld => ?_)
  generalize w2.drew = WD at *
  refine pickA (v := ?_) 0 (some 10) rfl rfl (by kernel_rfl) (by kernel_rfl) (by kernel_rfl) (by decide) (fun _ _ _ h => h) (by rfl) ?_ (by assumption) ?_
  rotate_left
  · intro w'
    go_simp
    try with_reducible rfl
  try simp only [Act.put, List.setIfInBounds_toArray, List.set_cons_zero, List.set_cons_succ]
  refine pickL (v := ?_) 1 (some 11) rfl rfl (by kernel_rfl) (by kernel_rfl) (by kernel_rfl) (by decide) (by kernel_rfl) (by kernel_rfl) (fun _ _ _ h => h) (by rfl) ?_ (by assumption) ?_
  rotate_left
  · intro w' hSw
    obtain ⟨q0, q1⟩ := hSw
    have z0 := cl_ak q1
    have z7 : w'.cell? ⟨H, 7, none⟩ = some (.int .i64 a.r.id) := q1.cell 7
    have z2 := cl_meid q0
    have z20 := cl_dead q0
    rw [hk.out] at z0
    go_simp
    try with_reducible rfl
  try simp only [Act.put, List.setIfInBounds_toArray, List.set_cons_zero, List.set_cons_succ]
  refine pickA (v := ?_) 2 (some 12) rfl rfl (by kernel_rfl) (by kernel_rfl) (by kernel_rfl) (by decide) (fun _ _ _ h => h) (by rfl) ?_ (by assumption) ?_
  rotate_left
  · intro w'
    go_simp
    try with_reducible rfl
  try simp only [Act.put, List.setIfInBounds_toArray, List.set_cons_zero, List.set_cons_succ]
  refine pickA (v := ?_) 3 (some 13) rfl rfl (by kernel_rfl) (by kernel_rfl) (by kernel_rfl) (by decide) (fun _ _ _ h => h) (by rfl) ?_ (by assumption) ?_
  rotate_left
  · intro w'
    go_simp
    try with_reducible rfl
  try simp only [Act.put, List.setIfInBounds_toArray, List.set_cons_zero, List.set_cons_succ]
  refine pickN 4 (some 14) rfl rfl (by kernel_rfl) (by kernel_rfl) (by kernel_rfl) (by decide) (fun _ _ _ h => h) (by rfl) (by assumption) ?_
  try simp only [Act.put, List.setIfInBounds_toArray, List.set_cons_zero, List.set_cons_succ]
  refine pickN 5 (some 15) rfl rfl (by kernel_rfl) (by kernel_rfl) (by kernel_rfl) (by decide) (fun _ _ _ h => h) (by rfl) (by assumption) ?_
  try simp only [Act.put, List.setIfInBounds_toArray, List.set_cons_zero, List.set_cons_succ]
  refine pickN 6 (some 16) rfl rfl (by kernel_rfl) (by kernel_rfl) (by kernel_rfl) (by decide) (fun _ _ _ h => h) (by rfl) (by assumption) ?_
  try simp only [Act.put, List.setIfInBounds_toArray, List.set_cons_zero, List.set_cons_succ]
  refine pickN 7 (some 17) rfl rfl (by kernel_rfl) (by kernel_rfl) (by kernel_rfl) (by decide) (fun _ _ _ h => h) (by rfl) (by assumption) ?_
  try simp only [Act.put, List.setIfInBounds_toArray, List.set_cons_zero, List.set_cons_succ]
  refine pickN 8 (some 18) rfl rfl (by kernel_rfl) (by kernel_rfl) (by kernel_rfl) (by decide) (fun _ _ _ h => h) (by rfl) (by assumption) ?_
  try simp only [Act.put, List.setIfInBounds_toArray, List.set_cons_zero, List.set_cons_succ]
  refine pickN 9 (some 19) rfl rfl (by kernel_rfl) (by kernel_rfl) (by kernel_rfl) (by decide) (fun _ _ _ h => h) (by rfl) (by assumption) ?_
  try simp only [Act.put, List.setIfInBounds_toArray, List.set_cons_zero, List.set_cons_succ]
  refine pickN 10 (some 20) rfl rfl (by kernel_rfl) (by kernel_rfl) (by kernel_rfl) (by decide) (fun _ _ _ h => h) (by rfl) (by assumption) ?_
  try simp only [Act.put, List.setIfInBounds_toArray, List.set_cons_zero, List.set_cons_succ]
  refine pickN 11 (some 21) rfl rfl (by kernel_rfl) (by kernel_rfl) (by kernel_rfl) (by decide) (fun _ _ _ h => h) (by rfl) (by assumption) ?_
  try simp only [Act.put, List.setIfInBounds_toArray, List.set_cons_zero, List.set_cons_succ]
  refine pickN 12 (some 22) rfl rfl (by kernel_rfl) (by kernel_rfl) (by kernel_rfl) (by decide) (fun _ _ _ h => h) (by rfl) (by assumption) ?_
  try simp only [Act.put, List.setIfInBounds_toArray, List.set_cons_zero, List.set_cons_succ]
  refine pickN 13 (some 23) rfl rfl (by kernel_rfl) (by kernel_rfl) (by kernel_rfl) (by decide) (fun _ _ _ h => h) (by rfl) (by assumption) ?_
  try simp only [Act.put, List.setIfInBounds_toArray, List.set_cons_zero, List.set_cons_succ]
  refine pickN 14 (some 24) rfl rfl (by kernel_rfl) (by kernel_rfl) (by kernel_rfl) (by decide) (fun _ _ _ h => h) (by rfl) (by assumption) ?_
  try simp only [Act.put, List.setIfInBounds_toArray, List.set_cons_zero, List.set_cons_succ]
  refine pickN 15 (some 25) rfl rfl (by kernel_rfl) (by kernel_rfl) (by kernel_rfl) (by decide) (fun _ _ _ h => h) (by rfl) (by assumption) ?_
  try simp only [Act.put, List.setIfInBounds_toArray, List.set_cons_zero, List.set_cons_succ]
  refine pickN 16 (some 26) rfl rfl (by kernel_rfl) (by kernel_rfl) (by kernel_rfl) (by decide) (fun _ _ _ h => h) (by rfl) (by assumption) ?_
  try simp only [Act.put, List.setIfInBounds_toArray, List.set_cons_zero, List.set_cons_succ]
  refine pickN 17 (some 27) rfl rfl (by kernel_rfl) (by kernel_rfl) (by kernel_rfl) (by decide) (fun _ _ _ h => h) (by rfl) (by assumption) ?_
  try simp only [Act.put, List.setIfInBounds_toArray, List.set_cons_zero, List.set_cons_succ]
  refine pickN 18 (some 28) rfl rfl (by kernel_rfl) (by kernel_rfl) (by kernel_rfl) (by decide) (fun _ _ _ h => h) (by rfl) (by assumption) ?_
  try simp only [Act.put, List.setIfInBounds_toArray, List.set_cons_zero, List.set_cons_succ]
  refine pickN 19 (some 29) rfl rfl (by kernel_rfl) (by kernel_rfl) (by kernel_rfl) (by decide) (fun _ _ _ h => h) (by rfl) (by assumption) ?_
  try simp only [Act.put, List.setIfInBounds_toArray, List.set_cons_zero, List.set_cons_succ]
  refine pickA (v := ?_) 20 (some 30) rfl rfl (by kernel_rfl) (by kernel_rfl) (by kernel_rfl) (by decide) (fun _ _ _ h => h) (by rfl) ?_ (by assumption) ?_
  rotate_left
  · intro w'
    go_simp
    try with_reducible rfl
  try simp only [Act.put, List.setIfInBounds_toArray, List.set_cons_zero, List.set_cons_succ]
  refine doneL (by kernel_rfl) ?_ _
  clear hHeld
  clear ID AD
  go_wp2_with (first | (focus ((with_reducible refine wpList_store_w ?_ 82 (.tmp 33) (.const (.int .i64 6)) ?_ ?_ ?_ HS9.out ?_); rotate_left; rfl; rfl; rfl; rotate_left; rfl)))
  refine bodyPost_ret (results_none rfl _ _ _) rfl ?_
  exact ⟨rfl, F6.out, K7.out⟩

set_option maxHeartbeats 2000000 in
set_option maxRecDepth 100000 in
theorem right_me (b : Nat) (S : Sp) (t : Option Th) (a : An) (hk : a.k = 3) (hid : a.r.id = S.me.id) (w : World) (X : SpAt w b S t) : Calls Tryd.prog 42 #[.pointer (some ⟨b, 0, none⟩), .agg (anL a).toArray] w fun e' w' => e' = .returned (.tuple #[]) ∧ SpAt w' b { S with dd := true, pl := 6 } t ∧ Kp [b] w w' := by
  have mixed : Tryd.prog.follows .mixedOrders = true := by kernel_rfl
  have b1 := (Below.refl w.heap.size w).alloc (Nat.le_refl _) (.cells (anL a).toArray 57)
  have AB := hide (IsB.new w (anL a).toArray 57)
  have X1 := hide (X.below b1)
  have KZ : Hid (Kp [b] w (w.alloc (.cells (anL a).toArray 57))) := Kp.of_below b1
  clear b1 X
  have y0 : (w.alloc (.cells (anL a).toArray 57)).cell? ⟨w.heap.size, 0, none⟩ = some (.int .i64 a.k) := cl_ak AB.out
  rw [hk] at y0
  replace hk := hide hk
  replace hid := hide hid
  obtain ⟨v, I, T⟩ := X1.out
  obtain ⟨w2, hs2, I2, k2⟩ := st_dead I true
  have hne : b ≠ w.heap.size := fun e => IsB.ne_t I AB.out (by decide) e
  have A2 := hide (AB.out.kp k2 (by simpa using fun e => hne e.symm))
  have ID := hide (I2.below ((Below.refl _ _).drew))
  have T2 := hide (T.turn I k2)
  have AD := hide (A2.out.below ((Below.refl _ _).drew))
  have KD := hide ((KZ.out.tr k2).bel ((Below.refl _ _).drew))
  obtain ⟨w9, hs9, I9, k9⟩ := st_at ID.out 6
  have F6 : Hid (SpAt w9 b { S with dd := true, pl := 6 } t) := ⟨v, I9, (T2.out.below ((Below.refl _ _).drew)).turn ID.out k9⟩
  have K7 := hide (KD.out.tr k9)
  have HS2 := hide hs2
  have HS9 := hide hs9
  clear hs2 I2 k2 T I X1 KZ hs9 I9 k9 T2 A2 KD
  go_enter Tryd.func42, Tryd.ntmps42
  go_wp2_with (first | (focus ((with_reducible refine wpList_store_w ?_ 4 (.tmp 9) (.tmp 7) ?_ ?_ ?_ HS2.out ?_); rotate_left; rfl; rfl; rfl; rotate_left; rfl)))
  generalize w.heap.size = H at *
  clear y0
  refine regionL 21 (fun w' => IsB w' b (spL { S with dd := true } v).toArray 85 ∧ IsB w' H (anL a).toArray 57) mixed ⟨ID.out, AD.out⟩ (fun hHeld => ?_)
  generalize w2.drew = WD at *
  refine pickA (v := ?_) 0 (some 10) rfl rfl (by kernel_rfl) (by kernel_rfl) (by kernel_rfl) (by decide) (fun _ _ _ h => h) (by rfl) ?_ (by assumption) ?_
  rotate_left
  · intro w'
    go_simp
    try with_reducible rfl
  try simp only [Act.put, List.setIfInBounds_toArray, List.set_cons_zero, List.set_cons_succ]
  refine pickL (v := ?_) 1 (some 11) rfl rfl (by kernel_rfl) (by kernel_rfl) (by kernel_rfl) (by decide) (by kernel_rfl) (by kernel_rfl) (fun _ _ _ h => h) (by rfl) ?_ (by assumption) ?_
  rotate_left
  · intro w' hSw
    obtain ⟨q0, q1⟩ := hSw
    have z0 := cl_ak q1
    have z7 : w'.cell? ⟨H, 7, none⟩ = some (.int .i64 a.r.id) := q1.cell 7
    have z2 := cl_meid q0
    have z20 := cl_dead q0
    rw [hk.out] at z0; rw [hid.out] at z7
    go_simp
    try with_reducible rfl
  try simp only [Act.put, List.setIfInBounds_toArray, List.set_cons_zero, List.set_cons_succ]
  refine pickA (v := ?_) 2 (some 12) rfl rfl (by kernel_rfl) (by kernel_rfl) (by kernel_rfl) (by decide) (fun _ _ _ h => h) (by rfl) ?_ (by assumption) ?_
  rotate_left
  · intro w'
    go_simp
    try with_reducible rfl
  try simp only [Act.put, List.setIfInBounds_toArray, List.set_cons_zero, List.set_cons_succ]
  refine pickA (v := ?_) 3 (some 13) rfl rfl (by kernel_rfl) (by kernel_rfl) (by kernel_rfl) (by decide) (fun _ _ _ h => h) (by rfl) ?_ (by assumption) ?_
  rotate_left
  · intro w'
    go_simp
    try with_reducible rfl
  try simp only [Act.put, List.setIfInBounds_toArray, List.set_cons_zero, List.set_cons_succ]
  refine pickA (v := ?_) 4 (some 14) rfl rfl (by kernel_rfl) (by kernel_rfl) (by kernel_rfl) (by decide) (fun _ _ _ h => h) (by rfl) ?_ (by assumption) ?_
  rotate_left
  · intro w'
    go_simp
    try with_reducible rfl
  try simp only [Act.put, List.setIfInBounds_toArray, List.set_cons_zero, List.set_cons_succ]
  refine pickA (v := ?_) 5 (some 15) rfl rfl (by kernel_rfl) (by kernel_rfl) (by kernel_rfl) (by decide) (fun _ _ _ h => h) (by rfl) ?_ (by assumption) ?_
  rotate_left
  · intro w'
    go_simp
    try with_reducible rfl
  try simp only [Act.put, List.setIfInBounds_toArray, List.set_cons_zero, List.set_cons_succ]
  refine pickA (v := ?_) 6 (some 16) rfl rfl (by kernel_rfl) (by kernel_rfl) (by kernel_rfl) (by decide) (fun _ _ _ h => h) (by rfl) ?_ (by assumption) ?_
  rotate_left
  · intro w'
    go_simp
    try with_reducible rfl
  try simp only [Act.put, List.setIfInBounds_toArray, List.set_cons_zero, List.set_cons_succ]
  refine pickL (v := ?_) 7 (some 17) rfl rfl (by kernel_rfl) (by kernel_rfl) (by kernel_rfl) (by decide) (by kernel_rfl) (by kernel_rfl) (fun _ _ _ h => h) (by rfl) ?_ (by assumption) ?_
  rotate_left
  · intro w' hSw
    obtain ⟨q0, q1⟩ := hSw
    have z0 := cl_ak q1
    have z7 : w'.cell? ⟨H, 7, none⟩ = some (.int .i64 a.r.id) := q1.cell 7
    have z2 := cl_meid q0
    have z20 := cl_dead q0
    rw [hk.out] at z0; rw [hid.out] at z7
    go_simp
    try with_reducible rfl
  try simp only [Act.put, List.setIfInBounds_toArray, List.set_cons_zero, List.set_cons_succ]
  refine pickA (v := ?_) 8 (some 18) rfl rfl (by kernel_rfl) (by kernel_rfl) (by kernel_rfl) (by decide) (fun _ _ _ h => h) (by rfl) ?_ (by assumption) ?_
  rotate_left
  · intro w'
    go_simp
    try with_reducible rfl
  try simp only [Act.put, List.setIfInBounds_toArray, List.set_cons_zero, List.set_cons_succ]
  refine pickA (v := ?_) 9 (some 19) rfl rfl (by kernel_rfl) (by kernel_rfl) (by kernel_rfl) (by decide) (fun _ _ _ h => h) (by rfl) ?_ (by assumption) ?_
  rotate_left
  · intro w'
    go_simp
    try with_reducible rfl
  try simp only [Act.put, List.setIfInBounds_toArray, List.set_cons_zero, List.set_cons_succ]
  refine pickA (v := ?_) 10 (some 20) rfl rfl (by kernel_rfl) (by kernel_rfl) (by kernel_rfl) (by decide) (fun _ _ _ h => h) (by rfl) ?_ (by assumption) ?_
  rotate_left
  · intro w'
    go_simp
    try with_reducible rfl
  try simp only [Act.put, List.setIfInBounds_toArray, List.set_cons_zero, List.set_cons_succ]
  refine pickL (v := ?_) 11 (some 21) rfl rfl (by kernel_rfl) (by kernel_rfl) (by kernel_rfl) (by decide) (by kernel_rfl) (by kernel_rfl) (fun _ _ _ h => h) (by rfl) ?_ (by assumption) ?_
  rotate_left
  · intro w' hSw
    obtain ⟨q0, q1⟩ := hSw
    have z0 := cl_ak q1
    have z7 : w'.cell? ⟨H, 7, none⟩ = some (.int .i64 a.r.id) := q1.cell 7
    have z2 := cl_meid q0
    have z20 := cl_dead q0
    rw [hk.out] at z0; rw [hid.out] at z7
    go_simp
    try with_reducible rfl
  try simp only [Act.put, List.setIfInBounds_toArray, List.set_cons_zero, List.set_cons_succ]
  refine pickA (v := ?_) 12 (some 22) rfl rfl (by kernel_rfl) (by kernel_rfl) (by kernel_rfl) (by decide) (fun _ _ _ h => h) (by rfl) ?_ (by assumption) ?_
  rotate_left
  · intro w'
    go_simp
    try with_reducible rfl
  try simp only [Act.put, List.setIfInBounds_toArray, List.set_cons_zero, List.set_cons_succ]
  refine pickA (v := ?_) 13 (some 23) rfl rfl (by kernel_rfl) (by kernel_rfl) (by kernel_rfl) (by decide) (fun _ _ _ h => h) (by rfl) ?_ (by assumption) ?_
  rotate_left
  · intro w'
    go_simp
    try with_reducible rfl
  try simp only [Act.put, List.setIfInBounds_toArray, List.set_cons_zero, List.set_cons_succ]
  refine pickA (v := ?_) 14 (some 24) rfl rfl (by kernel_rfl) (by kernel_rfl) (by kernel_rfl) (by decide) (fun _ _ _ h => h) (by rfl) ?_ (by assumption) ?_
  rotate_left
  · intro w'
    go_simp
    try with_reducible rfl
  try simp only [Act.put, List.setIfInBounds_toArray, List.set_cons_zero, List.set_cons_succ]
  refine pickA (v := ?_) 15 (some 25) rfl rfl (by kernel_rfl) (by kernel_rfl) (by kernel_rfl) (by decide) (fun _ _ _ h => h) (by rfl) ?_ (by assumption) ?_
  rotate_left
  · intro w'
    go_simp
    try with_reducible rfl
  try simp only [Act.put, List.setIfInBounds_toArray, List.set_cons_zero, List.set_cons_succ]
  refine pickA (v := ?_) 16 (some 26) rfl rfl (by kernel_rfl) (by kernel_rfl) (by kernel_rfl) (by decide) (fun _ _ _ h => h) (by rfl) ?_ (by assumption) ?_
  rotate_left
  · intro w'
    go_simp
    try with_reducible rfl
  try simp only [Act.put, List.setIfInBounds_toArray, List.set_cons_zero, List.set_cons_succ]
  refine pickL (v := ?_) 17 (some 27) rfl rfl (by kernel_rfl) (by kernel_rfl) (by kernel_rfl) (by decide) (by kernel_rfl) (by kernel_rfl) (fun _ _ _ h => h) (by rfl) ?_ (by assumption) ?_
  rotate_left
  · intro w' hSw
    obtain ⟨q0, q1⟩ := hSw
    have z0 := cl_ak q1
    have z7 : w'.cell? ⟨H, 7, none⟩ = some (.int .i64 a.r.id) := q1.cell 7
    have z2 := cl_meid q0
    have z20 := cl_dead q0
    rw [hk.out] at z0; rw [hid.out] at z7
    go_simp
    try with_reducible rfl
  try simp only [Act.put, List.setIfInBounds_toArray, List.set_cons_zero, List.set_cons_succ]
  refine pickA (v := ?_) 18 (some 28) rfl rfl (by kernel_rfl) (by kernel_rfl) (by kernel_rfl) (by decide) (fun _ _ _ h => h) (by rfl) ?_ (by assumption) ?_
  rotate_left
  · intro w'
    go_simp
    try with_reducible rfl
  try simp only [Act.put, List.setIfInBounds_toArray, List.set_cons_zero, List.set_cons_succ]
  refine pickA (v := ?_) 19 (some 29) rfl rfl (by kernel_rfl) (by kernel_rfl) (by kernel_rfl) (by decide) (fun _ _ _ h => h) (by rfl) ?_ (by assumption) ?_
  rotate_left
  · intro w'
    go_simp
    try with_reducible rfl
  try simp only [Act.put, List.setIfInBounds_toArray, List.set_cons_zero, List.set_cons_succ]
  refine pickA (v := ?_) 20 (some 30) rfl rfl (by kernel_rfl) (by kernel_rfl) (by kernel_rfl) (by decide) (fun _ _ _ h => h) (by rfl) ?_ (by assumption) ?_
  rotate_left
  · intro w'
    go_simp
    try with_reducible rfl
  try simp only [Act.put, List.setIfInBounds_toArray, List.set_cons_zero, List.set_cons_succ]
  refine doneL (by kernel_rfl) ?_ _
  clear hHeld
  clear ID AD
  go_wp2_with (first | (focus ((with_reducible refine wpList_store_w ?_ 82 (.tmp 33) (.const (.int .i64 6)) ?_ ?_ ?_ HS9.out ?_); rotate_left; rfl; rfl; rfl; rotate_left; rfl)))
  refine bodyPost_ret (results_none rfl _ _ _) rfl ?_
  exact ⟨rfl, F6.out, K7.out⟩

set_option maxHeartbeats 2000000 in
set_option maxRecDepth 100000 in
theorem right_dead (b : Nat) (S : Sp) (t : Option Th) (a : An) (hk : a.k = 3) (hid : ¬a.r.id = S.me.id) (w : World) (X : SpAt w b S t) : Calls Tryd.prog 42 #[.pointer (some ⟨b, 0, none⟩), .agg (anL a).toArray] w fun e' w' => e' = .returned (.tuple #[]) ∧ SpAt w' b { S with dd := true, pl := 8 } t ∧ Kp [b] w w' := by
  have mixed : Tryd.prog.follows .mixedOrders = true := by kernel_rfl
  have b1 := (Below.refl w.heap.size w).alloc (Nat.le_refl _) (.cells (anL a).toArray 57)
  have AB := hide (IsB.new w (anL a).toArray 57)
  have X1 := hide (X.below b1)
  have KZ : Hid (Kp [b] w (w.alloc (.cells (anL a).toArray 57))) := Kp.of_below b1
  clear b1 X
  have y0 : (w.alloc (.cells (anL a).toArray 57)).cell? ⟨w.heap.size, 0, none⟩ = some (.int .i64 a.k) := cl_ak AB.out
  rw [hk] at y0
  replace hk := hide hk
  have ei : (a.r.id == S.me.id) = false := by simpa using hid
  clear hid
  obtain ⟨v, I, T⟩ := X1.out
  obtain ⟨w2, hs2, I2, k2⟩ := st_dead I true
  have hne : b ≠ w.heap.size := fun e => IsB.ne_t I AB.out (by decide) e
  have A2 := hide (AB.out.kp k2 (by simpa using fun e => hne e.symm))
  have ID := hide (I2.below ((Below.refl _ _).drew))
  have T2 := hide (T.turn I k2)
  have AD := hide (A2.out.below ((Below.refl _ _).drew))
  have KD := hide ((KZ.out.tr k2).bel ((Below.refl _ _).drew))
  obtain ⟨w9, hs9, I9, k9⟩ := st_at ID.out 8
  have F6 : Hid (SpAt w9 b { S with dd := true, pl := 8 } t) := ⟨v, I9, (T2.out.below ((Below.refl _ _).drew)).turn ID.out k9⟩
  have K7 := hide (KD.out.tr k9)
  have HS2 := hide hs2
  have HS9 := hide hs9
  clear hs2 I2 k2 T I X1 KZ hs9 I9 k9 T2 A2 KD
  go_enter Tryd.func42, Tryd.ntmps42
  go_wp2_with (first | (focus ((with_reducible refine wpList_store_w ?_ 4 (.tmp 9) (.tmp 7) ?_ ?_ ?_ HS2.out ?_); rotate_left; rfl; rfl; rfl; rotate_left; rfl)))
  generalize w.heap.size = H at *
  clear y0
  refine regionL 21 (fun w' => IsB w' b (spL { S with dd := true } v).toArray 85 ∧ IsB w' H (anL a).toArray 57) mixed ⟨ID.out, AD.out⟩ (fun hHeld => ?_)
  generalize w2.drew = WD at *
  refine pickA (v := ?_) 0 (some 10) rfl rfl (by kernel_rfl) (by kernel_rfl) (by kernel_rfl) (by decide) (fun _ _ _ h => h) (by rfl) ?_ (by assumption) ?_
  rotate_left
  · intro w'
    go_simp
    try with_reducible rfl
  try simp only [Act.put, List.setIfInBounds_toArray, List.set_cons_zero, List.set_cons_succ]
  refine pickL (v := ?_) 1 (some 11) rfl rfl (by kernel_rfl) (by kernel_rfl) (by kernel_rfl) (by decide) (by kernel_rfl) (by kernel_rfl) (fun _ _ _ h => h) (by rfl) ?_ (by assumption) ?_
  rotate_left
  · intro w' hSw
    obtain ⟨q0, q1⟩ := hSw
    have z0 := cl_ak q1
    have z7 : w'.cell? ⟨H, 7, none⟩ = some (.int .i64 a.r.id) := q1.cell 7
    have z2 := cl_meid q0
    have z20 := cl_dead q0
    rw [hk.out] at z0
    go_simp
    try with_reducible rfl
  try simp only [Act.put, List.setIfInBounds_toArray, List.set_cons_zero, List.set_cons_succ]
  refine pickA (v := ?_) 2 (some 12) rfl rfl (by kernel_rfl) (by kernel_rfl) (by kernel_rfl) (by decide) (fun _ _ _ h => h) (by rfl) ?_ (by assumption) ?_
  rotate_left
  · intro w'
    go_simp
    try with_reducible rfl
  try simp only [Act.put, List.setIfInBounds_toArray, List.set_cons_zero, List.set_cons_succ]
  refine pickA (v := ?_) 3 (some 13) rfl rfl (by kernel_rfl) (by kernel_rfl) (by kernel_rfl) (by decide) (fun _ _ _ h => h) (by rfl) ?_ (by assumption) ?_
  rotate_left
  · intro w'
    go_simp
    try with_reducible rfl
  try simp only [Act.put, List.setIfInBounds_toArray, List.set_cons_zero, List.set_cons_succ]
  refine pickA (v := ?_) 4 (some 14) rfl rfl (by kernel_rfl) (by kernel_rfl) (by kernel_rfl) (by decide) (fun _ _ _ h => h) (by rfl) ?_ (by assumption) ?_
  rotate_left
  · intro w'
    go_simp
    try with_reducible rfl
  try simp only [Act.put, List.setIfInBounds_toArray, List.set_cons_zero, List.set_cons_succ]
  refine pickA (v := ?_) 5 (some 15) rfl rfl (by kernel_rfl) (by kernel_rfl) (by kernel_rfl) (by decide) (fun _ _ _ h => h) (by rfl) ?_ (by assumption) ?_
  rotate_left
  · intro w'
    go_simp
    try with_reducible rfl
  try simp only [Act.put, List.setIfInBounds_toArray, List.set_cons_zero, List.set_cons_succ]
  refine pickA (v := ?_) 6 (some 16) rfl rfl (by kernel_rfl) (by kernel_rfl) (by kernel_rfl) (by decide) (fun _ _ _ h => h) (by rfl) ?_ (by assumption) ?_
  rotate_left
  · intro w'
    go_simp
    try with_reducible rfl
  try simp only [Act.put, List.setIfInBounds_toArray, List.set_cons_zero, List.set_cons_succ]
  refine pickL (v := ?_) 7 (some 17) rfl rfl (by kernel_rfl) (by kernel_rfl) (by kernel_rfl) (by decide) (by kernel_rfl) (by kernel_rfl) (fun _ _ _ h => h) (by rfl) ?_ (by assumption) ?_
  rotate_left
  · intro w' hSw
    obtain ⟨q0, q1⟩ := hSw
    have z0 := cl_ak q1
    have z7 : w'.cell? ⟨H, 7, none⟩ = some (.int .i64 a.r.id) := q1.cell 7
    have z2 := cl_meid q0
    have z20 := cl_dead q0
    rw [hk.out] at z0
    go_simp
    try with_reducible rfl
  try simp only [Act.put, List.setIfInBounds_toArray, List.set_cons_zero, List.set_cons_succ]
  refine pickA (v := ?_) 8 (some 18) rfl rfl (by kernel_rfl) (by kernel_rfl) (by kernel_rfl) (by decide) (fun _ _ _ h => h) (by rfl) ?_ (by assumption) ?_
  rotate_left
  · intro w'
    go_simp
    try with_reducible rfl
  try simp only [Act.put, List.setIfInBounds_toArray, List.set_cons_zero, List.set_cons_succ]
  refine pickA (v := ?_) 9 (some 19) rfl rfl (by kernel_rfl) (by kernel_rfl) (by kernel_rfl) (by decide) (fun _ _ _ h => h) (by rfl) ?_ (by assumption) ?_
  rotate_left
  · intro w'
    go_simp
    try with_reducible rfl
  try simp only [Act.put, List.setIfInBounds_toArray, List.set_cons_zero, List.set_cons_succ]
  refine pickA (v := ?_) 10 (some 20) rfl rfl (by kernel_rfl) (by kernel_rfl) (by kernel_rfl) (by decide) (fun _ _ _ h => h) (by rfl) ?_ (by assumption) ?_
  rotate_left
  · intro w'
    go_simp
    try with_reducible rfl
  try simp only [Act.put, List.setIfInBounds_toArray, List.set_cons_zero, List.set_cons_succ]
  refine pickL (v := ?_) 11 (some 21) rfl rfl (by kernel_rfl) (by kernel_rfl) (by kernel_rfl) (by decide) (by kernel_rfl) (by kernel_rfl) (fun _ _ _ h => h) (by rfl) ?_ (by assumption) ?_
  rotate_left
  · intro w' hSw
    obtain ⟨q0, q1⟩ := hSw
    have z0 := cl_ak q1
    have z7 : w'.cell? ⟨H, 7, none⟩ = some (.int .i64 a.r.id) := q1.cell 7
    have z2 := cl_meid q0
    have z20 := cl_dead q0
    rw [hk.out] at z0
    go_simp
    try with_reducible rfl
  try simp only [Act.put, List.setIfInBounds_toArray, List.set_cons_zero, List.set_cons_succ]
  refine pickA (v := ?_) 12 (some 22) rfl rfl (by kernel_rfl) (by kernel_rfl) (by kernel_rfl) (by decide) (fun _ _ _ h => h) (by rfl) ?_ (by assumption) ?_
  rotate_left
  · intro w'
    go_simp
    try with_reducible rfl
  try simp only [Act.put, List.setIfInBounds_toArray, List.set_cons_zero, List.set_cons_succ]
  refine pickA (v := ?_) 13 (some 23) rfl rfl (by kernel_rfl) (by kernel_rfl) (by kernel_rfl) (by decide) (fun _ _ _ h => h) (by rfl) ?_ (by assumption) ?_
  rotate_left
  · intro w'
    go_simp
    try with_reducible rfl
  try simp only [Act.put, List.setIfInBounds_toArray, List.set_cons_zero, List.set_cons_succ]
  refine pickA (v := ?_) 14 (some 24) rfl rfl (by kernel_rfl) (by kernel_rfl) (by kernel_rfl) (by decide) (fun _ _ _ h => h) (by rfl) ?_ (by assumption) ?_
  rotate_left
  · intro w'
    go_simp
    try with_reducible rfl
  try simp only [Act.put, List.setIfInBounds_toArray, List.set_cons_zero, List.set_cons_succ]
  refine pickA (v := ?_) 15 (some 25) rfl rfl (by kernel_rfl) (by kernel_rfl) (by kernel_rfl) (by decide) (fun _ _ _ h => h) (by rfl) ?_ (by assumption) ?_
  rotate_left
  · intro w'
    go_simp
    try with_reducible rfl
  try simp only [Act.put, List.setIfInBounds_toArray, List.set_cons_zero, List.set_cons_succ]
  refine pickA (v := ?_) 16 (some 26) rfl rfl (by kernel_rfl) (by kernel_rfl) (by kernel_rfl) (by decide) (fun _ _ _ h => h) (by rfl) ?_ (by assumption) ?_
  rotate_left
  · intro w'
    go_simp
    try with_reducible rfl
  try simp only [Act.put, List.setIfInBounds_toArray, List.set_cons_zero, List.set_cons_succ]
  refine pickL (v := ?_) 17 (some 27) rfl rfl (by kernel_rfl) (by kernel_rfl) (by kernel_rfl) (by decide) (by kernel_rfl) (by kernel_rfl) (fun _ _ _ h => h) (by rfl) ?_ (by assumption) ?_
  rotate_left
  · intro w' hSw
    obtain ⟨q0, q1⟩ := hSw
    have z0 := cl_ak q1
    have z7 : w'.cell? ⟨H, 7, none⟩ = some (.int .i64 a.r.id) := q1.cell 7
    have z2 := cl_meid q0
    have z20 := cl_dead q0
    rw [hk.out] at z0
    go_simp
    try with_reducible rfl
  try simp only [Act.put, List.setIfInBounds_toArray, List.set_cons_zero, List.set_cons_succ]
  refine pickA (v := ?_) 18 (some 28) rfl rfl (by kernel_rfl) (by kernel_rfl) (by kernel_rfl) (by decide) (fun _ _ _ h => h) (by rfl) ?_ (by assumption) ?_
  rotate_left
  · intro w'
    go_simp
    try with_reducible rfl
  try simp only [Act.put, List.setIfInBounds_toArray, List.set_cons_zero, List.set_cons_succ]
  refine pickA (v := ?_) 19 (some 29) rfl rfl (by kernel_rfl) (by kernel_rfl) (by kernel_rfl) (by decide) (fun _ _ _ h => h) (by rfl) ?_ (by assumption) ?_
  rotate_left
  · intro w'
    go_simp
    try with_reducible rfl
  try simp only [Act.put, List.setIfInBounds_toArray, List.set_cons_zero, List.set_cons_succ]
  refine pickA (v := ?_) 20 (some 30) rfl rfl (by kernel_rfl) (by kernel_rfl) (by kernel_rfl) (by decide) (fun _ _ _ h => h) (by rfl) ?_ (by assumption) ?_
  rotate_left
  · intro w'
    go_simp
    try with_reducible rfl
  try simp only [Act.put, List.setIfInBounds_toArray, List.set_cons_zero, List.set_cons_succ]
  refine doneL (by kernel_rfl) ?_ _
  clear hHeld
  clear ID AD
  go_wp2_with (first | (focus ((with_reducible refine wpList_store_w ?_ 82 (.tmp 36) (.const (.int .i64 8)) ?_ ?_ ?_ HS9.out ?_); rotate_left; rfl; rfl; rfl; rotate_left; rfl)))
  refine bodyPost_end (results_none rfl _ _ _) rfl ?_
  exact ⟨rfl, F6.out, K7.out⟩

set_option maxHeartbeats 2000000 in
set_option maxRecDepth 100000 in
theorem right_no (b : Nat) (S : Sp) (t : Option Th) (a : An) (hk1 : ¬a.k = 1) (hk3 : ¬a.k = 3) (w : World) (X : SpAt w b S t) : Calls Tryd.prog 42 #[.pointer (some ⟨b, 0, none⟩), .agg (anL a).toArray] w fun e' w' => e' = .returned (.tuple #[]) ∧ SpAt w' b { S with dd := false, pl := 8 } t ∧ Kp [b] w w' := by
  have mixed : Tryd.prog.follows .mixedOrders = true := by kernel_rfl
  have b1 := (Below.refl w.heap.size w).alloc (Nat.le_refl _) (.cells (anL a).toArray 57)
  have AB := hide (IsB.new w (anL a).toArray 57)
  have X1 := hide (X.below b1)
  have KZ : Hid (Kp [b] w (w.alloc (.cells (anL a).toArray 57))) := Kp.of_below b1
  clear b1 X
  have y0 : (w.alloc (.cells (anL a).toArray 57)).cell? ⟨w.heap.size, 0, none⟩ = some (.int .i64 a.k) := cl_ak AB.out
  have e1 : (a.k == 1) = false := by simpa using hk1
  have e3 : (a.k == 3) = false := by simpa using hk3
  obtain ⟨v, I, T⟩ := X1.out
  obtain ⟨w2, hs2, I2, k2⟩ := st_dead I false
  have hne : b ≠ w.heap.size := fun e => IsB.ne_t I AB.out (by decide) e
  have A2 := hide (AB.out.kp k2 (by simpa using fun e => hne e.symm))
  have ID := hide (I2.below ((Below.refl _ _).drew))
  have T2 := hide (T.turn I k2)
  have AD := hide (A2.out.below ((Below.refl _ _).drew))
  have KD := hide ((KZ.out.tr k2).bel ((Below.refl _ _).drew))
  obtain ⟨w9, hs9, I9, k9⟩ := st_at ID.out 8
  have F6 : Hid (SpAt w9 b { S with dd := false, pl := 8 } t) := ⟨v, I9, (T2.out.below ((Below.refl _ _).drew)).turn ID.out k9⟩
  have K7 := hide (KD.out.tr k9)
  have HS2 := hide hs2
  have HS9 := hide hs9
  clear hs2 I2 k2 T I X1 KZ hs9 I9 k9 T2 A2 KD
  go_enter Tryd.func42, Tryd.ntmps42
  go_wp2_with (first | (focus ((with_reducible refine wpList_store_w ?_ 4 (.tmp 9) (.tmp 7) ?_ ?_ ?_ HS2.out ?_); rotate_left; rfl; rfl; rfl; rotate_left; rfl)))
  generalize w.heap.size = H at *
  clear y0
  refine regionL 21 (fun w' => IsB w' b (spL { S with dd := false } v).toArray 85 ∧ IsB w' H (anL a).toArray 57) mixed ⟨ID.out, AD.out⟩ (fun hHeld => ?_)
  generalize w2.drew = WD at *
  refine pickA (v := ?_) 0 (some 10) rfl rfl (by kernel_rfl) (by kernel_rfl) (by kernel_rfl) (by decide) (fun _ _ _ h => h) (by rfl) ?_ (by assumption) ?_
  rotate_left
  · intro w'
    go_simp
    try with_reducible rfl
  try simp only [Act.put, List.setIfInBounds_toArray, List.set_cons_zero, List.set_cons_succ]
  refine pickL (v := ?_) 1 (some 11) rfl rfl (by kernel_rfl) (by kernel_rfl) (by kernel_rfl) (by decide) (by kernel_rfl) (by kernel_rfl) (fun _ _ _ h => h) (by rfl) ?_ (by assumption) ?_
  rotate_left
  · intro w' hSw
    obtain ⟨q0, q1⟩ := hSw
    have z0 := cl_ak q1
    have z7 : w'.cell? ⟨H, 7, none⟩ = some (.int .i64 a.r.id) := q1.cell 7
    have z2 := cl_meid q0
    have z20 := cl_dead q0
    skip
    go_simp
    try with_reducible rfl
  try simp only [Act.put, List.setIfInBounds_toArray, List.set_cons_zero, List.set_cons_succ]
  refine pickA (v := ?_) 2 (some 12) rfl rfl (by kernel_rfl) (by kernel_rfl) (by kernel_rfl) (by decide) (fun _ _ _ h => h) (by rfl) ?_ (by assumption) ?_
  rotate_left
  · intro w'
    go_simp
    try with_reducible rfl
  try simp only [Act.put, List.setIfInBounds_toArray, List.set_cons_zero, List.set_cons_succ]
  refine pickA (v := ?_) 3 (some 13) rfl rfl (by kernel_rfl) (by kernel_rfl) (by kernel_rfl) (by decide) (fun _ _ _ h => h) (by rfl) ?_ (by assumption) ?_
  rotate_left
  · intro w'
    go_simp
    try with_reducible rfl
  try simp only [Act.put, List.setIfInBounds_toArray, List.set_cons_zero, List.set_cons_succ]
  refine pickA (v := ?_) 4 (some 14) rfl rfl (by kernel_rfl) (by kernel_rfl) (by kernel_rfl) (by decide) (fun _ _ _ h => h) (by rfl) ?_ (by assumption) ?_
  rotate_left
  · intro w'
    go_simp
    try with_reducible rfl
  try simp only [Act.put, List.setIfInBounds_toArray, List.set_cons_zero, List.set_cons_succ]
  refine pickA (v := ?_) 5 (some 15) rfl rfl (by kernel_rfl) (by kernel_rfl) (by kernel_rfl) (by decide) (fun _ _ _ h => h) (by rfl) ?_ (by assumption) ?_
  rotate_left
  · intro w'
    go_simp
    try with_reducible rfl
  try simp only [Act.put, List.setIfInBounds_toArray, List.set_cons_zero, List.set_cons_succ]
  refine pickA (v := ?_) 6 (some 16) rfl rfl (by kernel_rfl) (by kernel_rfl) (by kernel_rfl) (by decide) (fun _ _ _ h => h) (by rfl) ?_ (by assumption) ?_
  rotate_left
  · intro w'
    go_simp
    try with_reducible rfl
  try simp only [Act.put, List.setIfInBounds_toArray, List.set_cons_zero, List.set_cons_succ]
  refine pickL (v := ?_) 7 (some 17) rfl rfl (by kernel_rfl) (by kernel_rfl) (by kernel_rfl) (by decide) (by kernel_rfl) (by kernel_rfl) (fun _ _ _ h => h) (by rfl) ?_ (by assumption) ?_
  rotate_left
  · intro w' hSw
    obtain ⟨q0, q1⟩ := hSw
    have z0 := cl_ak q1
    have z7 : w'.cell? ⟨H, 7, none⟩ = some (.int .i64 a.r.id) := q1.cell 7
    have z2 := cl_meid q0
    have z20 := cl_dead q0
    skip
    go_simp
    try with_reducible rfl
  try simp only [Act.put, List.setIfInBounds_toArray, List.set_cons_zero, List.set_cons_succ]
  refine pickA (v := ?_) 8 (some 18) rfl rfl (by kernel_rfl) (by kernel_rfl) (by kernel_rfl) (by decide) (fun _ _ _ h => h) (by rfl) ?_ (by assumption) ?_
  rotate_left
  · intro w'
    go_simp
    try with_reducible rfl
  try simp only [Act.put, List.setIfInBounds_toArray, List.set_cons_zero, List.set_cons_succ]
  refine pickN 9 (some 19) rfl rfl (by kernel_rfl) (by kernel_rfl) (by kernel_rfl) (by decide) (fun _ _ _ h => h) (by rfl) (by assumption) ?_
  try simp only [Act.put, List.setIfInBounds_toArray, List.set_cons_zero, List.set_cons_succ]
  refine pickN 10 (some 20) rfl rfl (by kernel_rfl) (by kernel_rfl) (by kernel_rfl) (by decide) (fun _ _ _ h => h) (by rfl) (by assumption) ?_
  try simp only [Act.put, List.setIfInBounds_toArray, List.set_cons_zero, List.set_cons_succ]
  refine pickN 11 (some 21) rfl rfl (by kernel_rfl) (by kernel_rfl) (by kernel_rfl) (by decide) (fun _ _ _ h => h) (by rfl) (by assumption) ?_
  try simp only [Act.put, List.setIfInBounds_toArray, List.set_cons_zero, List.set_cons_succ]
  refine pickN 12 (some 22) rfl rfl (by kernel_rfl) (by kernel_rfl) (by kernel_rfl) (by decide) (fun _ _ _ h => h) (by rfl) (by assumption) ?_
  try simp only [Act.put, List.setIfInBounds_toArray, List.set_cons_zero, List.set_cons_succ]
  refine pickN 13 (some 23) rfl rfl (by kernel_rfl) (by kernel_rfl) (by kernel_rfl) (by decide) (fun _ _ _ h => h) (by rfl) (by assumption) ?_
  try simp only [Act.put, List.setIfInBounds_toArray, List.set_cons_zero, List.set_cons_succ]
  refine pickN 14 (some 24) rfl rfl (by kernel_rfl) (by kernel_rfl) (by kernel_rfl) (by decide) (fun _ _ _ h => h) (by rfl) (by assumption) ?_
  try simp only [Act.put, List.setIfInBounds_toArray, List.set_cons_zero, List.set_cons_succ]
  refine pickN 15 (some 25) rfl rfl (by kernel_rfl) (by kernel_rfl) (by kernel_rfl) (by decide) (fun _ _ _ h => h) (by rfl) (by assumption) ?_
  try simp only [Act.put, List.setIfInBounds_toArray, List.set_cons_zero, List.set_cons_succ]
  refine pickN 16 (some 26) rfl rfl (by kernel_rfl) (by kernel_rfl) (by kernel_rfl) (by decide) (fun _ _ _ h => h) (by rfl) (by assumption) ?_
  try simp only [Act.put, List.setIfInBounds_toArray, List.set_cons_zero, List.set_cons_succ]
  refine pickN 17 (some 27) rfl rfl (by kernel_rfl) (by kernel_rfl) (by kernel_rfl) (by decide) (fun _ _ _ h => h) (by rfl) (by assumption) ?_
  try simp only [Act.put, List.setIfInBounds_toArray, List.set_cons_zero, List.set_cons_succ]
  refine pickN 18 (some 28) rfl rfl (by kernel_rfl) (by kernel_rfl) (by kernel_rfl) (by decide) (fun _ _ _ h => h) (by rfl) (by assumption) ?_
  try simp only [Act.put, List.setIfInBounds_toArray, List.set_cons_zero, List.set_cons_succ]
  refine pickA (v := ?_) 19 (some 29) rfl rfl (by kernel_rfl) (by kernel_rfl) (by kernel_rfl) (by decide) (fun _ _ _ h => h) (by rfl) ?_ (by assumption) ?_
  rotate_left
  · intro w'
    go_simp
    try with_reducible rfl
  try simp only [Act.put, List.setIfInBounds_toArray, List.set_cons_zero, List.set_cons_succ]
  refine pickA (v := ?_) 20 (some 30) rfl rfl (by kernel_rfl) (by kernel_rfl) (by kernel_rfl) (by decide) (fun _ _ _ h => h) (by rfl) ?_ (by assumption) ?_
  rotate_left
  · intro w'
    go_simp
    try with_reducible rfl
  try simp only [Act.put, List.setIfInBounds_toArray, List.set_cons_zero, List.set_cons_succ]
  refine doneL (by kernel_rfl) ?_ _
  clear hHeld
  clear ID AD
  go_wp2_with (first | (focus ((with_reducible refine wpList_store_w ?_ 82 (.tmp 36) (.const (.int .i64 8)) ?_ ?_ ?_ HS9.out ?_); rotate_left; rfl; rfl; rfl; rotate_left; rfl)))
  refine bodyPost_end (results_none rfl _ _ _) rfl ?_
  exact ⟨rfl, F6.out, K7.out⟩

theorem right_any (b : Nat) (S : Sp) (t : Option Th) (a : An) (w : World) (X : SpAt w b S t) : Calls Tryd.prog 42 #[.pointer (some ⟨b, 0, none⟩), .agg (anL a).toArray] w fun e' w' => e' = .returned (.tuple #[]) ∧ SpAt w' b (S.hRight a) t ∧ Kp [b] w w' := by
  unfold Sp.hRight
  by_cases h1 : a.k = 1
  · rw [if_pos (Or.inl h1), h1]; exact right_ok b S t a h1 w X
  · by_cases h3 : a.k = 3
    · by_cases hi : a.r.id = S.me.id
      · rw [if_pos (Or.inr ⟨h3, hi⟩), h3]; exact right_me b S t a h3 hi w X
      · rw [if_neg fun h => h.elim h1 fun h => hi h.2, h3]; exact right_dead b S t a h3 hi w X
    · rw [if_neg fun h => h.elim h1 fun h => h3 h.1, decide_eq_false h3]; exact right_no b S t a h1 h3 w X

end Go.Proofs.YtofmommoeligoaaDoor
