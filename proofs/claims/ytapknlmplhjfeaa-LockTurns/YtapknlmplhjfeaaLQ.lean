/- The document's lock: Leave, End. -/
import Derived.Test.YtapknlmplhjfeaaLO
namespace Go.Proofs.Ytapknlmplhjfeaa
open Go.RowKit Go.Maps

theorem rleave_bad (b : Nat) (w : World) (a o : Int) (hok : okO a o = false) : Calls Try.prog 25 #[.pointer (some ⟨b, 0, none⟩), .agg #[.int .i64 a, .int .i64 o]] w fun e w' => e = .returned (.tuple #[.bool false, .int .i64 70]) ∧ Below w.heap.size w w' := by
  go_enter Try.func25, Try.ntmps25
  go_wp2_with fail
  refine (isOwner_any a o _).mono ?_; rintro e w1 ⟨rfl, hb⟩
  rw [hok]
  have HB := hide (((Below.refl _ w).alloc (Nat.le_refl _) (.cells #[.int .i64 a, .int .i64 o] 27)).trans (hb.mono (by simp)))
  clear hb
  go_wp2
  go_ret2
  exact ⟨rfl, HB.out⟩

set_option maxHeartbeats 4000000 in
set_option maxRecDepth 100000 in
theorem rleave_none (b : Nat) (v : Value) (os : List Ow) (w : World) (a o : Int) (h : RS w b v os) (hok : okO a o = true) (hP : plc (a, o) os.tail = -1) : Calls Try.prog 25 #[.pointer (some ⟨b, 0, none⟩), .agg #[.int .i64 a, .int .i64 o]] w fun e w' => e = .returned (.tuple #[.bool false, .int .i64 0]) ∧ Below w.heap.size w w' := by
  replace hP := hide hP
  have mixed : Try.prog.follows .mixedOrders = true := by kernel_rfl
  have bel0 := (Below.refl w.heap.size w).alloc (Nat.le_refl _) (.cells #[.int .i64 a, .int .i64 o] 27)
  have L1 := hide (h.below bel0)
  have J1 := hide (IsB.new w #[.int .i64 a, .int .i64 o] 27)
  have B1 := hide bel0
  replace hok := hide hok
  have h0 := hide h
  clear bel0 h
  go_enter Try.func25, Try.ntmps25
  go_wp2_with fail
  refine (isOwner_any a o _).mono ?_; rintro e w2 ⟨rfl, hb⟩
  rw [hok.out]
  have L2 := hide (L1.out.below hb)
  have J2 := hide (J1.out.below hb)
  have B2 := hide (B1.out.trans (hb.mono B1.out.size))
  clear hb L1 J1 B1
  have j0 := J2.out.cell 0
  have j1 := J2.out.cell 1
  simp at j0 j1
  go_wp2_with fail
  clear j0 j1
  refine (rplace_any b _ _ a o _ L2.out).mono ?_; rintro e w4 ⟨rfl, hb⟩
  rw [hP.out]
  have L4 := hide (L2.out.below hb)
  have B4 := hide (B2.out.trans (hb.mono B2.out.size))
  clear hb L2 J2 B2
  go_wp2
  go_ret2
  exact ⟨rfl, B4.out⟩

set_option maxHeartbeats 4000000 in
set_option maxRecDepth 100000 in
theorem rleave_one (b : Nat) (v : Value) (x y : Int) (tl : List Ow) (w : World) (a o : Int) (h : RS w b v ((x, y) :: tl)) (hok : okO a o = true) (P : Nat) (hP : plc (a, o) tl = (P : Int)) (hlt : P < tl.length) : Calls Try.prog 25 #[.pointer (some ⟨b, 0, none⟩), .agg #[.int .i64 a, .int .i64 o]] w fun e w' => e = .returned (.tuple #[.bool true, .int .i64 0]) ∧ ∃ v', Rx w w' b v v' ((x, y) :: tl.eraseIdx P) := by
  replace hP : Hid (plc (a, o) (List.tail ((x, y) :: tl)) = (P : Int)) := hP
  replace hlt := hide hlt
  have mixed : Try.prog.follows .mixedOrders = true := by kernel_rfl
  have bel0 := (Below.refl w.heap.size w).alloc (Nat.le_refl _) (.cells #[.int .i64 a, .int .i64 o] 27)
  have L1 := hide (h.below bel0)
  have J1 := hide (IsB.new w #[.int .i64 a, .int .i64 o] 27)
  have B1 := hide bel0
  replace hok := hide hok
  have h0 := hide h
  clear bel0 h
  go_enter Try.func25, Try.ntmps25
  go_wp2_with fail
  refine (isOwner_any a o _).mono ?_; rintro e w2 ⟨rfl, hb⟩
  rw [hok.out]
  have L2 := hide (L1.out.below hb)
  have J2 := hide (J1.out.below hb)
  have B2 := hide (B1.out.trans (hb.mono B1.out.size))
  clear hb L1 J1 B1
  have j0 := J2.out.cell 0
  have j1 := J2.out.cell 1
  simp at j0 j1
  go_wp2_with fail
  clear j0 j1
  refine (rplace_any b _ _ a o _ L2.out).mono ?_; rintro e w4 ⟨rfl, hb⟩
  rw [hP.out]
  have L4 := hide (L2.out.below hb)
  have B4 := hide (B2.out.trans (hb.mono B2.out.size))
  clear hb L2 J2 B2
  have LD4 := hide (L4.out.below ((Below.refl _ w4).drew))
  have hlen : tl.length ≤ 64 := by have := h0.out.len; simp at this; omega
  have hR : Rw w4.drew 27 2 v tl.length (ows tl) := LD4.out.row
  obtain ⟨g, vc, hgv, hcap, -, -⟩ := hR.form (by have := hlt.out; omega)
  subst hgv
  obtain ⟨q, hq⟩ : ∃ q : Nat, q = P + 1 := ⟨_, rfl⟩
  have hqn : q ≤ tl.length := by have := hlt.out; omega
  have hwr : Hid (IntKind.i64.wrap ((P : Int) + 1) = (q : Int)) := by
    show _ = _
    rw [IntKind.wrap_i64]; have := hlt.out; omega
  have hS1 : Sl w4.drew (.slice (some ⟨g, 0, none⟩) P vc) (tl.take P) := by
    have h1 := hR.head P vc (by omega) (by omega) (Nat.le_refl _)
    rw [ows_take] at h1
    have h2 : (tl.take P).length = P := by rw [List.length_take]; omega
    have h3 := Rw.sl (l := tl.take P) (by rw [h2]; exact h1)
    exact h3
  have hS2 := hR.tailSl q hqn
  have HE : Hid (tl.eraseIdx P = tl.take P ++ tl.drop q) := by show _ = _; rw [hq]; exact List.eraseIdx_eq_take_drop_succ tl P
  have hPl : P ≤ vc := by have := hlt.out; omega
  have hPn : Hid ((tl.take P).length = P) := by show _ = _; rw [List.length_take]; omega
  have bE := (Below.refl w4.drew.heap.size w4.drew).alloc (Nat.le_refl _) (.cells #[] 27)
  obtain ⟨ta, tc, W8, hrun8, hrw8, hat8, hgr8⟩ := run_clone (IsB.new w4.drew #[] 27) (hS1.below bE) (by rw [hPn.out]; omega) 28
  have b8 := bE.grown hgr8 (by simp) (fun k hk => by simp at hk ⊢; omega)
  have hat8' : ∀ k, (Value.slice ta (tl.take P).length tc).ownBlock = some k → w4.drew.heap.size ≤ k := fun k hk => by
    rcases hat8 k hk with h | h
    · simp at h ⊢; omega
    · simp at h ⊢; omega
  obtain ⟨ua, uc, W9, hrun9, hrw9, hat9, h89⟩ := run_more hrw8 hat8' b8.size (by rw [hPn.out]; omega) (hS2.below b8) (by rw [List.length_drop]; omega) 28
  have hb9 := hide (b8.trans h89)
  have hb8 := hide b8
  have hbE := hide bE
  have hKeep : Hid (∀ W, Below w4.drew.heap.size w4.drew W → (fun w' => w'.cell? ⟨b, 3, none⟩ = some (.slice (some ⟨g, 0, none⟩) tl.length vc)) W) := fun W hW => (LD4.out.blk.below hW).cell 3
  have hc4 : w4.cell? ⟨b, 3, none⟩ = some (.slice (some ⟨g, 0, none⟩) tl.length vc) := L4.out.blk.cell 3
  rw [hPn.out] at hrun8 hrun9
  generalize hxa : (if vc = q then some (⟨g, 0, none⟩ : Addr) else some ⟨g, q * 2, none⟩) = xa at hrun9
  replace hxa := hide hxa
  replace hrun8 := hide hrun8
  replace hrun9 := hide hrun9
  replace hrw9 := hide hrw9
  replace hat9 := hide hat9
  have hUn : Hid ((tl.take P ++ tl.drop q).length ≤ 64) := by show _ ≤ _; rw [← HE.out, List.length_eraseIdx]; split <;> omega
  clear hS1 hS2 bE b8 h89 hrw8 hat8 hat8' hgr8 hR
  generalize hun : (tl.take P ++ tl.drop q).length = un at *
  replace hun := hide hun
  replace hq := hide hq
  generalize hn : tl.length = n at *
  replace hn := hide hn
  clear hc4
  go_wp2
  have HS6 := hide (hKeep.out _ (Below.refl _ _))
  refine regionL 19 (fun w' => w'.cell? ⟨b, 3, none⟩ = some (.slice (some ⟨g, 0, none⟩) n vc)) mixed HS6.out (fun hHeld => ?_)
  refine pickA (v := ?_) 0 (some 15) rfl rfl (by kernel_rfl) (by kernel_rfl) (by kernel_rfl) (by decide) (fun _ _ _ h => h) (by rfl) ?_ (by assumption) ?_
  rotate_left
  · intro w'
    go_simp
    try with_reducible rfl
  try simp only [Act.put, List.setIfInBounds_toArray, List.set_cons_zero, List.set_cons_succ]
  refine pickA (v := ?_) 2 (some 17) rfl rfl (by kernel_rfl) (by kernel_rfl) (by kernel_rfl) (by decide) (fun _ _ _ h => h) (by rfl) ?_ (by assumption) ?_
  rotate_left
  · intro w'
    go_simp
    try with_reducible rfl
  try simp only [Act.put, List.setIfInBounds_toArray, List.set_cons_zero, List.set_cons_succ]
  refine pickA (v := ?_) 3 (some 18) rfl rfl (by kernel_rfl) (by kernel_rfl) (by kernel_rfl) (by decide) (fun _ _ _ h => h) (by rfl) ?_ (by assumption) ?_
  rotate_left
  · intro w'
    go_simp
    try with_reducible rfl
  try simp only [Act.put, List.setIfInBounds_toArray, List.set_cons_zero, List.set_cons_succ]
  refine pickA (v := ?_) 4 (some 19) rfl rfl (by kernel_rfl) (by kernel_rfl) (by kernel_rfl) (by decide) (fun _ _ _ h => h) (by rfl) ?_ (by assumption) ?_
  rotate_left
  · intro w'
    go_simp
    try with_reducible rfl
  try simp only [Act.put, List.setIfInBounds_toArray, List.set_cons_zero, List.set_cons_succ]
  refine pickL (v := ?_) 5 (some 20) rfl rfl (by kernel_rfl) (by kernel_rfl) (by kernel_rfl) (by decide) (by kernel_rfl) (by kernel_rfl) (fun _ _ _ h => h) (by rfl) ?_ (by assumption) ?_
  rotate_left
  · intro w' hSw
    skip
    go_simp
    try with_reducible rfl
  try simp only [Act.put, List.setIfInBounds_toArray, List.set_cons_zero, List.set_cons_succ]
  refine pickA (v := ?_) 6 (some 21) rfl rfl (by kernel_rfl) (by kernel_rfl) (by kernel_rfl) (by decide) (fun _ _ _ h => h) (by rfl) ?_ (by assumption) ?_
  rotate_left
  · intro w'
    go_simp
    try with_reducible rfl
  try simp only [Act.put, List.setIfInBounds_toArray, List.set_cons_zero, List.set_cons_succ]
  refine pickA (v := .slice (some ⟨g, 0, none⟩) P vc) 7 (some 22) rfl rfl (by kernel_rfl) (by kernel_rfl) (by kernel_rfl) (by decide) (fun _ _ _ h => h) (by rfl) ?_ (by assumption) ?_
  · intro w'
    go_simp
  try simp only [Act.put, List.setIfInBounds_toArray, List.set_cons_zero, List.set_cons_succ]
  refine pickA (v := ?_) 9 (some 24) rfl rfl (by kernel_rfl) (by kernel_rfl) (by kernel_rfl) (by decide) (fun _ _ _ h => h) (by rfl) ?_ (by assumption) ?_
  rotate_left
  · intro w'
    go_simp
    try with_reducible rfl
  try simp only [Act.put, List.setIfInBounds_toArray, List.set_cons_zero, List.set_cons_succ]
  refine pickA (v := ?_) 10 (some 25) rfl rfl (by kernel_rfl) (by kernel_rfl) (by kernel_rfl) (by decide) (fun _ _ _ h => h) (by rfl) ?_ (by assumption) ?_
  rotate_left
  · intro w'
    go_simp
    try with_reducible rfl
  try simp only [Act.put, List.setIfInBounds_toArray, List.set_cons_zero, List.set_cons_succ]
  refine pickA (v := ?_) 11 (some 26) rfl rfl (by kernel_rfl) (by kernel_rfl) (by kernel_rfl) (by decide) (fun _ _ _ h => h) (by rfl) ?_ (by assumption) ?_
  rotate_left
  · intro w'
    go_simp
    try with_reducible rfl
  try simp only [Act.put, List.setIfInBounds_toArray, List.set_cons_zero, List.set_cons_succ]
  refine pickL (v := ?_) 12 (some 27) rfl rfl (by kernel_rfl) (by kernel_rfl) (by kernel_rfl) (by decide) (by kernel_rfl) (by kernel_rfl) (fun _ _ _ h => h) (by rfl) ?_ (by assumption) ?_
  rotate_left
  · intro w' hSw
    skip
    go_simp
    try with_reducible rfl
  try simp only [Act.put, List.setIfInBounds_toArray, List.set_cons_zero, List.set_cons_succ]
  refine pickA (v := ?_) 13 (some 28) rfl rfl (by kernel_rfl) (by kernel_rfl) (by kernel_rfl) (by decide) (fun _ _ _ h => h) (by rfl) ?_ (by assumption) ?_
  rotate_left
  · intro w'
    go_simp
    try with_reducible rfl
  try simp only [Act.put, List.setIfInBounds_toArray, List.set_cons_zero, List.set_cons_succ]
  refine pickA (v := .int .i64 (q : Int)) 14 (some 29) rfl rfl (by kernel_rfl) (by kernel_rfl) (by kernel_rfl) (by decide) (fun _ _ _ h => h) (by rfl) ?_ (by assumption) ?_
  · intro w'
    go_simp
    rw [hwr.out]
  try simp only [Act.put, List.setIfInBounds_toArray, List.set_cons_zero, List.set_cons_succ]
  refine pickA (v := .slice xa (n - q) (vc - q)) 15 (some 30) rfl rfl (by kernel_rfl) (by kernel_rfl) (by kernel_rfl) (by decide) (fun _ _ _ h => h) (by rfl) ?_ (by assumption) ?_
  · intro w'
    go_simp
    rw [hxa.out]
  try simp only [Act.put, List.setIfInBounds_toArray, List.set_cons_zero, List.set_cons_succ]
  refine oneL (i := 1) (by kernel_rfl) rfl (fun K hK => ?_)
  go_simp
  refine hK.out _ _ ?_ ?_
  · exact hKeep.out _ hbE.out
  clear hK K
  try simp only [Act.put, List.setIfInBounds_toArray, List.set_cons_zero, List.set_cons_succ]
  clear hHeld
  have hHeld := hKeep.out _ hbE.out
  refine oneL (i := 8) (by kernel_rfl) rfl (fun K hK => ?_)
  refine step_append_eq rfl (.tmp 16) (.tmp 22) 28 rfl _ _ (.slice ta P tc) W8 rfl rfl hrun8.out ?_
  refine hK.out _ _ ?_ ?_
  · exact hKeep.out _ hb8.out
  clear hK K
  try simp only [Act.put, List.setIfInBounds_toArray]
  clear hHeld
  have hHeld := hKeep.out _ hb8.out
  refine oneL (i := 16) (by kernel_rfl) rfl (fun K hK => ?_)
  refine step_append_eq rfl (.tmp 23) (.tmp 30) 28 rfl _ _ (.slice ua un uc) W9 rfl rfl hrun9.out ?_
  refine hK.out _ _ ?_ ?_
  · exact hKeep.out _ hb9.out
  clear hK K
  try simp only [Act.put]
  clear hHeld
  have hHeld := hKeep.out _ hb9.out
  refine pickA (v := ?_) 17 (some 32) rfl rfl (by kernel_rfl) (by kernel_rfl) (by kernel_rfl) (by decide) (fun _ _ _ h => h) (by rfl) ?_ (by assumption) ?_
  rotate_left
  · intro w'
    go_simp
    try with_reducible rfl
  try simp only [Act.put]
  refine pickA (v := ?_) 18 (some 33) rfl rfl (by kernel_rfl) (by kernel_rfl) (by kernel_rfl) (by decide) (fun _ _ _ h => h) (by rfl) ?_ (by assumption) ?_
  rotate_left
  · intro w'
    go_simp
    try with_reducible rfl
  try simp only [Act.put]
  have hB9 := hide (LD4.out.blk.below hb9.out)
  have c3 := hB9.out.cell 3
  have f3 := hB9.out.free 3
  simp at c3
  refine lateL (i := 19) (by kernel_rfl) rfl (by decide) (by kernel_rfl) (fun K hK => ?_)
  go_simp
  refine hK.out _ _ ?_
  clear hK K
  try simp only [Act.put, List.setIfInBounds_toArray, List.set_cons_zero, List.set_cons_succ]
  refine doneL (by kernel_rfl) ?_ _
  clear hHeld
  clear c3 f3
  go_wp2
  go_ret2
  have hne : ∀ k, (Value.slice ua un uc).ownBlock = some k → k ≠ b := fun k hk e => by
    have h1 := hat9.out k hk
    have h2 := LD4.out.blk.lt
    omega
  rw [HE.out]
  refine ⟨rfl, .slice ua un uc, ⟨?_, ?_, ?_⟩, Kp.trans (Kp.of_below B4.out) ((((Kp.refl [b] w4).drew).trans (Kp.of_below (S := []) hb9.out) (by simp)).set _ _ (Or.inl (by simp))) (by simp), fun k hk => Or.inr (Nat.le_trans B4.out.size (hat9.out k hk))⟩
  · have h1 := (LD4.out.cons.below hb9.out).set 3 (.slice ua un uc)
    simpa [hd] using h1
  · have h1 := hrw9.out.kept (w' := W9.setCell ⟨b, 3, none⟩ (.slice ua un uc)) fun k hk => Below.heap_setCell _ _ _ _ (hne k hk)
    rw [← hun.out] at h1 ⊢
    exact h1
  · have h1 := hUn.out
    have h2 := hun.out
    simp only [List.length_cons]
    omega

set_option maxHeartbeats 4000000 in
set_option maxRecDepth 100000 in
theorem rend_any (b : Nat) (v : Value) (os : List Ow) (w : World) (h : RS w b v os) : Calls Try.prog 26 #[.pointer (some ⟨b, 0, none⟩)] w fun e w' => e = .returned v ∧ Rw w' 27 2 v os.tail.length (ows os.tail) ∧ Rx w w' b v (.slice none 0 0) [] := by
  have hB := hide h.blk
  have c0 := hB.out.cell 0
  have c1 := hB.out.cell 1
  have c2 := hB.out.cell 2
  have c3 := hB.out.cell 3
  have f0 := hB.out.free 0
  have f1 := hB.out.free 1
  have f2 := hB.out.free 2
  have f3 := hB.out.free 3
  simp at c0 c1 c2 c3
  replace h := hide h
  go_enter Try.func26, Try.ntmps26
  go_wp2
  go_ret
  have hk : ∀ W, W = (((w.setCell ⟨b, 0, none⟩ (.bool false)).setCell ⟨b, 1, none⟩ (.int .i64 0)).setCell ⟨b, 2, none⟩ (.int .i64 0)).setCell ⟨b, 3, none⟩ (.slice none 0 0) → Kp [b] w W ∧ IsB W b #[.bool false, .int .i64 0, .int .i64 0, .slice none 0 0] 30 := by
    rintro W rfl
    refine ⟨((((Kp.refl [b] w).set _ _ (Or.inl (by simp))).set _ _ (Or.inl (by simp))).set _ _ (Or.inl (by simp))).set _ _ (Or.inl (by simp)), ?_⟩
    have := (((hB.out.set 0 (.bool false)).set 1 (.int .i64 0)).set 2 (.int .i64 0)).set 3 (.slice none 0 0)
    simpa using this
  obtain ⟨k1, k2⟩ := hk _ rfl
  refine ⟨rfl, h.out.row.kp k1 (fun q hq => by simp; exact h.out.apart q hq), ⟨?_, ⟨rfl, Or.inl ⟨rfl, rfl⟩⟩, by simp⟩, k1, fun q hq => by simp [Value.ownBlock] at hq⟩
  exact k2

end Go.Proofs.Ytapknlmplhjfeaa
