/- The document's lock: Ask. -/
import Derived.Test.YtapknlmplhjfeaaLM
namespace Go.Proofs.Ytapknlmplhjfeaa
open Go.RowKit Go.Maps

set_option maxHeartbeats 4000000 in
set_option maxRecDepth 100000 in
theorem rask_new (b : Nat) (v : Value) (x y : Int) (tl : List Ow) (w : World) (a o : Int) (h : RS w b v ((x, y) :: tl)) (hok : okO a o = true) (hxy : x = a → ¬y = o) (hP : plc (a, o) tl = -1) (hl : tl.length ≤ 63) : Calls Try.prog 23 #[.pointer (some ⟨b, 0, none⟩), .agg #[.int .i64 a, .int .i64 o]] w fun e w' => e = .returned (.tuple #[.bool false, .int .i64 0]) ∧ ∃ v', Rx w w' b v v' (((x, y) :: tl) ++ [(a, o)]) := by
  replace hxy := hide hxy
  replace hP := hide hP
  replace hl := hide hl
  have mixed : Try.prog.follows .mixedOrders = true := by kernel_rfl
  have bel0 := (Below.refl w.heap.size w).alloc (Nat.le_refl _) (.cells #[.int .i64 a, .int .i64 o] 27)
  have L1 := hide (h.below bel0)
  have J1 := hide (IsB.new w #[.int .i64 a, .int .i64 o] 27)
  have B1 := hide bel0
  have hlen := h.len
  obtain ⟨va, vc, rfl⟩ := h.nat
  replace hok := hide hok
  have h0 := hide h
  clear bel0 h
  simp only [List.tail_cons, List.length_cons] at *
  generalize hn : tl.length = n at *
  replace hn := hide hn
  go_enter Try.func23, Try.ntmps23
  go_wp2_with fail
  refine (isOwner_any a o _).mono ?_; rintro e w2 ⟨rfl, hb⟩
  rw [hok.out]
  have L2 := hide (L1.out.below hb)
  have J2 := hide (J1.out.below hb)
  have B2 := hide (B1.out.trans (hb.mono B1.out.size))
  clear hb L1 J1 B1
  generalize hH : w.heap.size = H at J2 ⊢
  replace hH := hide hH
  have hC := hide L2.out.cons
  have c0 := hC.out.cell 0
  have c1 := hC.out.cell 1
  have c2 := hC.out.cell 2
  have c3 := hC.out.cell 3
  have j0 := J2.out.cell 0
  have j1 := J2.out.cell 1
  simp at c0 c1 c2 c3 j0 j1
  go_wp2
  refine regionL 13 (fun w' => w'.cell? ⟨b, 0, none⟩ = some (.bool true) ∧ w'.cell? ⟨b, 1, none⟩ = some (.int .i64 x) ∧ w'.cell? ⟨b, 2, none⟩ = some (.int .i64 y) ∧ w'.cell? ⟨H, 0, none⟩ = some (.int .i64 a) ∧ w'.cell? ⟨H, 1, none⟩ = some (.int .i64 o)) mixed ⟨c0, c1, c2, j0, j1⟩ (fun hHeld => ?_)
  refine pickA (v := ?_) 0 (some 11) rfl rfl (by kernel_rfl) (by kernel_rfl) (by kernel_rfl) (by decide) (fun _ _ _ h => h) (by rfl) ?_ (by assumption) ?_
  rotate_left
  · intro w'
    go_simp
    try with_reducible rfl
  try simp only [Act.put, List.setIfInBounds_toArray, List.set_cons_zero, List.set_cons_succ]
  refine pickA (v := ?_) 1 (some 12) rfl rfl (by kernel_rfl) (by kernel_rfl) (by kernel_rfl) (by decide) (fun _ _ _ h => h) (by rfl) ?_ (by assumption) ?_
  rotate_left
  · intro w'
    go_simp
    try with_reducible rfl
  try simp only [Act.put, List.setIfInBounds_toArray, List.set_cons_zero, List.set_cons_succ]
  refine pickA (v := ?_) 2 (some 13) rfl rfl (by kernel_rfl) (by kernel_rfl) (by kernel_rfl) (by decide) (fun _ _ _ h => h) (by rfl) ?_ (by assumption) ?_
  rotate_left
  · intro w'
    go_simp
    try with_reducible rfl
  try simp only [Act.put, List.setIfInBounds_toArray, List.set_cons_zero, List.set_cons_succ]
  refine pickL (v := ?_) 3 (some 14) rfl rfl (by kernel_rfl) (by kernel_rfl) (by kernel_rfl) (by decide) (by kernel_rfl) (by kernel_rfl) (fun _ _ _ h => h) (by rfl) ?_ (by assumption) ?_
  rotate_left
  · intro w' hSw
    obtain ⟨q0, q1, q2, q3, q4⟩ := hSw
    go_simp
    try with_reducible rfl
  try simp only [Act.put, List.setIfInBounds_toArray, List.set_cons_zero, List.set_cons_succ]
  refine pickA (v := ?_) 4 (some 15) rfl rfl (by kernel_rfl) (by kernel_rfl) (by kernel_rfl) (by decide) (fun _ _ _ h => h) (by rfl) ?_ (by assumption) ?_
  rotate_left
  · intro w'
    go_simp
    try with_reducible rfl
  try simp only [Act.put, List.setIfInBounds_toArray, List.set_cons_zero, List.set_cons_succ]
  refine pickA (v := ?_) 5 (some 16) rfl rfl (by kernel_rfl) (by kernel_rfl) (by kernel_rfl) (by decide) (fun _ _ _ h => h) (by rfl) ?_ (by assumption) ?_
  rotate_left
  · intro w'
    go_simp
    try with_reducible rfl
  try simp only [Act.put, List.setIfInBounds_toArray, List.set_cons_zero, List.set_cons_succ]
  refine pickA (v := ?_) 6 (some 17) rfl rfl (by kernel_rfl) (by kernel_rfl) (by kernel_rfl) (by decide) (fun _ _ _ h => h) (by rfl) ?_ (by assumption) ?_
  rotate_left
  · intro w'
    go_simp
    try with_reducible rfl
  try simp only [Act.put, List.setIfInBounds_toArray, List.set_cons_zero, List.set_cons_succ]
  refine pickA (v := ?_) 7 (some 18) rfl rfl (by kernel_rfl) (by kernel_rfl) (by kernel_rfl) (by decide) (fun _ _ _ h => h) (by rfl) ?_ (by assumption) ?_
  rotate_left
  · intro w'
    go_simp
    try with_reducible rfl
  try simp only [Act.put, List.setIfInBounds_toArray, List.set_cons_zero, List.set_cons_succ]
  refine pickL (v := ?_) 8 (some 19) rfl rfl (by kernel_rfl) (by kernel_rfl) (by kernel_rfl) (by decide) (by kernel_rfl) (by kernel_rfl) (fun _ _ _ h => h) (by rfl) ?_ (by assumption) ?_
  rotate_left
  · intro w' hSw
    obtain ⟨q0, q1, q2, q3, q4⟩ := hSw
    go_simp
    try with_reducible rfl
  try simp only [Act.put, List.setIfInBounds_toArray, List.set_cons_zero, List.set_cons_succ]
  refine pickL (v := ?_) 9 (some 20) rfl rfl (by kernel_rfl) (by kernel_rfl) (by kernel_rfl) (by decide) (by kernel_rfl) (by kernel_rfl) (fun _ _ _ h => h) (by rfl) ?_ (by assumption) ?_
  rotate_left
  · intro w' hSw
    obtain ⟨q0, q1, q2, q3, q4⟩ := hSw
    go_simp
    try with_reducible rfl
  try simp only [Act.put, List.setIfInBounds_toArray, List.set_cons_zero, List.set_cons_succ]
  refine pickA (v := .bool false) 10 (some 21) rfl rfl (by kernel_rfl) (by kernel_rfl) (by kernel_rfl) (by decide) (fun _ _ _ h => h) (by rfl) ?_ (by assumption) ?_
  · intro w'
    go_simp
    exact hxy.out
  try simp only [Act.put, List.setIfInBounds_toArray, List.set_cons_zero, List.set_cons_succ]
  refine pickA (v := ?_) 11 (some 22) rfl rfl (by kernel_rfl) (by kernel_rfl) (by kernel_rfl) (by decide) (fun _ _ _ h => h) (by rfl) ?_ (by assumption) ?_
  rotate_left
  · intro w'
    go_simp
    try with_reducible rfl
  try simp only [Act.put, List.setIfInBounds_toArray, List.set_cons_zero, List.set_cons_succ]
  refine pickA (v := ?_) 12 (some 10) rfl rfl (by kernel_rfl) (by kernel_rfl) (by kernel_rfl) (by decide) (fun _ _ _ h => h) (by rfl) ?_ (by assumption) ?_
  rotate_left
  · intro w'
    go_simp
    try with_reducible rfl
  try simp only [Act.put, List.setIfInBounds_toArray, List.set_cons_zero, List.set_cons_succ]
  refine doneL (by kernel_rfl) ?_ _
  clear hHeld
  have LD := hide (L2.out.below ((Below.refl w2.heap.size w2).drew))
  have JD := hide (J2.out.below ((Below.refl w2.heap.size w2).drew))
  have BD := hide (B2.out.drew)
  clear L2 J2 B2 hC c0 c1 c2 c3 j0 j1
  generalize w2.drew = w3 at *
  have j0 := JD.out.cell 0
  have j1 := JD.out.cell 1
  simp at j0 j1
  go_wp2_with fail
  clear j0 j1
  refine (rplace_any b _ _ a o _ LD.out).mono ?_; rintro e w4 ⟨rfl, hb⟩
  rw [show plc (a, o) (List.tail ((x, y) :: tl)) = _ from hP.out]
  have L4 := hide (LD.out.below hb)
  have J4 := hide (JD.out.below hb)
  have B4 := hide (BD.out.trans (hb.mono BD.out.size))
  clear hb LD JD BD
  have c0 := L4.out.cons.cell 0
  have c3 := L4.out.cons.cell 3
  simp at c0 c3
  have hl63 : n ≤ 63 := hl.out
  go_wp2
  clear c0 c3
  have LD4 := hide (L4.out.below ((Below.refl _ w4).drew))
  have JD4 := hide (J4.out.below ((Below.refl _ w4).drew))
  have hSl : Hid (Sl w4.drew (.slice va n vc) tl) := LD4.out.row.sl
  have hKeep : Hid (∀ W, Below w4.drew.heap.size w4.drew W → (fun w' => w'.cell? ⟨b, 3, none⟩ = some (.slice va n vc) ∧ w'.cell? ⟨H, 0, none⟩ = some (.int .i64 a) ∧ w'.cell? ⟨H, 1, none⟩ = some (.int .i64 o)) W) := fun W hW => ⟨(LD4.out.blk.below hW).cell 3, (JD4.out.below hW).cell 0, (JD4.out.below hW).cell 1⟩
  have HS12 := hide (hKeep.out _ (Below.refl _ _))
  refine regionL 12 (fun w' => w'.cell? ⟨b, 3, none⟩ = some (.slice va n vc) ∧ w'.cell? ⟨H, 0, none⟩ = some (.int .i64 a) ∧ w'.cell? ⟨H, 1, none⟩ = some (.int .i64 o)) mixed HS12.out (fun hHeld => ?_)
  refine pickA (v := ?_) 0 (some 48) rfl rfl (by kernel_rfl) (by kernel_rfl) (by kernel_rfl) (by decide) (fun _ _ _ h => h) (by rfl) ?_ (by assumption) ?_
  rotate_left
  · intro w'
    go_simp
    try with_reducible rfl
  try simp only [Act.put, List.setIfInBounds_toArray, List.set_cons_zero, List.set_cons_succ]
  refine pickA (v := ?_) 2 (some 50) rfl rfl (by kernel_rfl) (by kernel_rfl) (by kernel_rfl) (by decide) (fun _ _ _ h => h) (by rfl) ?_ (by assumption) ?_
  rotate_left
  · intro w'
    go_simp
    try with_reducible rfl
  try simp only [Act.put, List.setIfInBounds_toArray, List.set_cons_zero, List.set_cons_succ]
  refine pickA (v := ?_) 3 (some 51) rfl rfl (by kernel_rfl) (by kernel_rfl) (by kernel_rfl) (by decide) (fun _ _ _ h => h) (by rfl) ?_ (by assumption) ?_
  rotate_left
  · intro w'
    go_simp
    try with_reducible rfl
  try simp only [Act.put, List.setIfInBounds_toArray, List.set_cons_zero, List.set_cons_succ]
  refine pickA (v := ?_) 4 (some 52) rfl rfl (by kernel_rfl) (by kernel_rfl) (by kernel_rfl) (by decide) (fun _ _ _ h => h) (by rfl) ?_ (by assumption) ?_
  rotate_left
  · intro w'
    go_simp
    try with_reducible rfl
  try simp only [Act.put, List.setIfInBounds_toArray, List.set_cons_zero, List.set_cons_succ]
  refine pickL (v := ?_) 5 (some 53) rfl rfl (by kernel_rfl) (by kernel_rfl) (by kernel_rfl) (by decide) (by kernel_rfl) (by kernel_rfl) (fun _ _ _ h => h) (by rfl) ?_ (by assumption) ?_
  rotate_left
  · intro w' hSw
    obtain ⟨q0, q1, q2⟩ := hSw
    go_simp
    try with_reducible rfl
  try simp only [Act.put, List.setIfInBounds_toArray, List.set_cons_zero, List.set_cons_succ]
  refine pickL (v := ?_) 7 (some 55) rfl rfl (by kernel_rfl) (by kernel_rfl) (by kernel_rfl) (by decide) (by kernel_rfl) (by kernel_rfl) (fun _ _ _ h => h) (by rfl) ?_ (by assumption) ?_
  rotate_left
  · intro w' hSw
    obtain ⟨q0, q1, q2⟩ := hSw
    go_simp
    try with_reducible rfl
  try simp only [Act.put, List.setIfInBounds_toArray, List.set_cons_zero, List.set_cons_succ]
  refine twoL (i := 1) (j := 8) (by kernel_rfl) rfl rfl (fun K hK => ?_) (fun K hK => ?_)
  · go_simp
    have hbE : Below w4.drew.heap.size w4.drew (w4.drew.alloc (.cells #[] 27)) := (Below.refl w4.drew.heap.size w4.drew).alloc (Nat.le_refl _) (.cells #[] 27)
    refine hK.out _ _ ?_ ?_
    · exact (hKeep.out _ (hbE))
    clear hK K
    try simp only [Act.put, List.setIfInBounds_toArray, List.set_cons_zero, List.set_cons_succ]
    clear hHeld
    have hHeld := hKeep.out _ (hbE)
    refine twoL (i := 6) (j := 8) (by kernel_rfl) rfl rfl (fun K hK => ?_) (fun K hK => ?_)
    · obtain ⟨ta, tc, W6, hrun6, hrw6, hat6, hgr6⟩ := run_clone (IsB.new w4.drew #[] 27) (hSl.out.below ((Below.refl w4.drew.heap.size w4.drew).alloc (Nat.le_refl _) (.cells #[] 27))) (by rw [hn.out]; omega) 28
      rw [hn.out] at hrun6 hrw6 hat6
      have hb6 : Below w4.drew.heap.size w4.drew W6 := ((Below.refl w4.drew.heap.size w4.drew).alloc (Nat.le_refl _) (.cells #[] 27)).grown hgr6 (by simp) (fun k hk => by simp at hk ⊢; omega)
      refine step_append_eq rfl (.tmp 49) (.tmp 53) 28 rfl _ _ (.slice ta n tc) W6 rfl rfl hrun6 ?_
      refine hK.out _ _ ?_ ?_
      · exact (hKeep.out _ (hb6))
      clear hK K
      try simp only [Act.put, List.setIfInBounds_toArray]
      clear hHeld
      have hHeld := hKeep.out _ (hb6)
      refine oneL (i := 8) (by kernel_rfl) rfl (fun K hK => ?_)
      go_simp
      have hbW : Below w4.drew.heap.size w4.drew (W6.alloc (.cells #[.int .i64 a, .int .i64 o] 27)) := hb6.alloc hb6.size _
      refine hK.out _ _ ?_ ?_
      · exact (hKeep.out _ (hbW))
      clear hK K
      try simp only [Act.put, List.setIfInBounds_toArray, List.set_cons_zero, List.set_cons_succ]
      clear hHeld
      have hHeld := hKeep.out _ (hbW)
      have hqW := IsB.new W6 #[.int .i64 a, .int .i64 o] 27
      replace hrw6 := hrw6.below ((Below.refl _ _).alloc (Nat.le_refl _) (.cells #[.int .i64 a, .int .i64 o] 27))
      have hatW : ∀ k, (Value.slice ta tl.length tc).ownBlock = some k → w4.drew.heap.size ≤ k := fun k hk => by
        rw [hn.out] at hk
        rcases hat6 k hk with h | h
        · simp at h ⊢; omega
        · simp at h ⊢; omega
      rw [← hn.out] at hrw6
      obtain ⟨ua, uc, W9, hrun9, hrw9, hat9, hb9⟩ := ask_fin hbW hrw6 hatW hqW (by rw [hn.out]; omega)
      have hS9 := hide (hKeep.out W9 hb9)
      generalize hun : (tl ++ [(a, o)]).length = un at *
      rw [hn.out] at hrun9
      refine oneL (i := 9) (by kernel_rfl) rfl (fun K hK => ?_)
      refine step_append_eq rfl (.tmp 54) (.tmp 56) 28 rfl _ _ (.slice ua un uc) W9 rfl rfl hrun9 ?_
      refine hK.out _ _ ?_ ?_
      · exact hS9.out
      clear hK K
      try simp only [Act.put, List.setIfInBounds_toArray]
      clear hHeld
      have hHeld := hS9.out
      refine pickA (v := ?_) 10 (some 58) rfl rfl (by kernel_rfl) (by kernel_rfl) (by kernel_rfl) (by decide) (fun _ _ _ h => h) (by rfl) ?_ (by assumption) ?_
      rotate_left
      · intro w'
        go_simp
        try with_reducible rfl
      try simp only [Act.put]
      refine pickA (v := ?_) 11 (some 59) rfl rfl (by kernel_rfl) (by kernel_rfl) (by kernel_rfl) (by decide) (fun _ _ _ h => h) (by rfl) ?_ (by assumption) ?_
      rotate_left
      · intro w'
        go_simp
        try with_reducible rfl
      try simp only [Act.put]
      have hB9 := hide (LD4.out.blk.below hb9)
      have c3 := hB9.out.cell 3
      have f3 := hB9.out.free 3
      simp at c3
      refine lateL (i := 12) (by kernel_rfl) rfl (by decide) (by kernel_rfl) (fun K hK => ?_)
      go_simp
      refine hK.out _ _ ?_
      clear hK K
      try simp only [Act.put, List.setIfInBounds_toArray, List.set_cons_zero, List.set_cons_succ]
      refine doneL (by kernel_rfl) ?_ _
      clear hHeld
      clear c3 f3
      go_wp2
      go_ret2
      have hne : ∀ k, (Value.slice ua un uc).ownBlock = some k → k ≠ b := fun k hk e => by
        have h1 := hat9 k hk
        have h2 := LD4.out.blk.lt
        omega
      refine ⟨rfl, .slice ua un uc, ⟨?_, ?_, by have := hun; simp at this ⊢; have := hn.out; omega⟩, Kp.trans (Kp.of_below B4.out) ((((Kp.refl [b] w4).drew).trans (Kp.of_below (S := []) hb9) (by simp)).set _ _ (Or.inl (by simp))) (by simp), fun k hk => Or.inr (Nat.le_trans B4.out.size (hat9 k hk))⟩
      · have h1 := (LD4.out.cons.below hb9).set 3 (.slice ua un uc)
        simpa [hd] using h1
      · have h1 := hrw9.kept (w' := W9.setCell ⟨b, 3, none⟩ (.slice ua un uc)) fun k hk => Below.heap_setCell _ _ _ _ (hne k hk)
        rw [← hun] at h1 ⊢
        exact h1
    · have hbW0 : Below w4.drew.heap.size w4.drew ((w4.drew.alloc (.cells #[] 27)).alloc (.cells #[.int .i64 a, .int .i64 o] 27)) := ((Below.refl w4.drew.heap.size w4.drew).alloc (Nat.le_refl _) (.cells #[] 27)).alloc (by simp) (.cells #[.int .i64 a, .int .i64 o] 27)
      go_simp
      refine hK.out _ _ ?_ ?_
      · exact (hKeep.out _ (hbW0))
      clear hK K
      try simp only [Act.put, List.setIfInBounds_toArray, List.set_cons_zero, List.set_cons_succ]
      clear hHeld
      have hHeld := hKeep.out _ (hbW0)
      have hqW := IsB.new (w4.drew.alloc (.cells #[] 27)) #[.int .i64 a, .int .i64 o] 27
      have hz : (w4.drew.alloc (.cells #[] 27)).heap.size = w4.heap.size + 1 := by simp
      rw [hz] at hqW
      clear hz
      have hpW := (IsB.new w4.drew #[] 27).below ((Below.refl _ _).alloc (Nat.le_refl _) (.cells #[.int .i64 a, .int .i64 o] 27))
      obtain ⟨ta, tc, W6, hrun6, hrw6, hat6, hgr6⟩ := run_clone hpW (hSl.out.below hbW0) (by rw [hn.out]; omega) 28
      rw [hn.out] at hrun6 hrw6 hat6
      have hbW : Below w4.drew.heap.size w4.drew W6 := hbW0.grown hgr6 hbW0.size (fun k hk => by simp at hk ⊢; omega)
      refine oneL (i := 6) (by kernel_rfl) rfl (fun K hK => ?_)
      refine step_append_eq rfl (.tmp 49) (.tmp 53) 28 rfl _ _ (.slice ta n tc) W6 rfl rfl hrun6 ?_
      refine hK.out _ _ ?_ ?_
      · exact (hKeep.out _ (hbW))
      clear hK K
      try simp only [Act.put, List.setIfInBounds_toArray]
      clear hHeld
      have hHeld := hKeep.out _ (hbW)
      replace hqW := hqW.grown hgr6 (by simp)
      have hatW : ∀ k, (Value.slice ta tl.length tc).ownBlock = some k → w4.drew.heap.size ≤ k := fun k hk => by
        rw [hn.out] at hk
        rcases hat6 k hk with h | h
        · simp at h ⊢; omega
        · simp at h ⊢; omega
      rw [← hn.out] at hrw6
      obtain ⟨ua, uc, W9, hrun9, hrw9, hat9, hb9⟩ := ask_fin hbW hrw6 hatW hqW (by rw [hn.out]; omega)
      have hS9 := hide (hKeep.out W9 hb9)
      generalize hun : (tl ++ [(a, o)]).length = un at *
      rw [hn.out] at hrun9
      refine oneL (i := 9) (by kernel_rfl) rfl (fun K hK => ?_)
      refine step_append_eq rfl (.tmp 54) (.tmp 56) 28 rfl _ _ (.slice ua un uc) W9 rfl rfl hrun9 ?_
      refine hK.out _ _ ?_ ?_
      · exact hS9.out
      clear hK K
      try simp only [Act.put]
      clear hHeld
      have hHeld := hS9.out
      refine pickA (v := ?_) 10 (some 58) rfl rfl (by kernel_rfl) (by kernel_rfl) (by kernel_rfl) (by decide) (fun _ _ _ h => h) (by rfl) ?_ (by assumption) ?_
      rotate_left
      · intro w'
        go_simp
        try with_reducible rfl
      try simp only [Act.put]
      refine pickA (v := ?_) 11 (some 59) rfl rfl (by kernel_rfl) (by kernel_rfl) (by kernel_rfl) (by decide) (fun _ _ _ h => h) (by rfl) ?_ (by assumption) ?_
      rotate_left
      · intro w'
        go_simp
        try with_reducible rfl
      try simp only [Act.put]
      have hB9 := hide (LD4.out.blk.below hb9)
      have c3 := hB9.out.cell 3
      have f3 := hB9.out.free 3
      simp at c3
      refine lateL (i := 12) (by kernel_rfl) rfl (by decide) (by kernel_rfl) (fun K hK => ?_)
      go_simp
      refine hK.out _ _ ?_
      clear hK K
      try simp only [Act.put, List.setIfInBounds_toArray, List.set_cons_zero, List.set_cons_succ]
      refine doneL (by kernel_rfl) ?_ _
      clear hHeld
      clear c3 f3
      go_wp2
      go_ret2
      have hne : ∀ k, (Value.slice ua un uc).ownBlock = some k → k ≠ b := fun k hk e => by
        have h1 := hat9 k hk
        have h2 := LD4.out.blk.lt
        omega
      refine ⟨rfl, .slice ua un uc, ⟨?_, ?_, by have := hun; simp at this ⊢; have := hn.out; omega⟩, Kp.trans (Kp.of_below B4.out) ((((Kp.refl [b] w4).drew).trans (Kp.of_below (S := []) hb9) (by simp)).set _ _ (Or.inl (by simp))) (by simp), fun k hk => Or.inr (Nat.le_trans B4.out.size (hat9 k hk))⟩
      · have h1 := (LD4.out.cons.below hb9).set 3 (.slice ua un uc)
        simpa [hd] using h1
      · have h1 := hrw9.kept (w' := W9.setCell ⟨b, 3, none⟩ (.slice ua un uc)) fun k hk => Below.heap_setCell _ _ _ _ (hne k hk)
        rw [← hun] at h1 ⊢
        exact h1
  · have hbO : Below w4.drew.heap.size w4.drew (w4.drew.alloc (.cells #[.int .i64 a, .int .i64 o] 27)) := (Below.refl w4.drew.heap.size w4.drew).alloc (Nat.le_refl _) (.cells #[.int .i64 a, .int .i64 o] 27)
    go_simp
    refine hK.out _ _ ?_ ?_
    · exact (hKeep.out _ (hbO))
    clear hK K
    try simp only [Act.put, List.setIfInBounds_toArray, List.set_cons_zero, List.set_cons_succ]
    clear hHeld
    have hHeld := hKeep.out _ (hbO)
    refine oneL (i := 1) (by kernel_rfl) rfl (fun K hK => ?_)
    have hbW0 : Below w4.drew.heap.size w4.drew ((w4.drew.alloc (.cells #[.int .i64 a, .int .i64 o] 27)).alloc (.cells #[] 27)) := ((Below.refl w4.drew.heap.size w4.drew).alloc (Nat.le_refl _) (.cells #[.int .i64 a, .int .i64 o] 27)).alloc (by simp) (.cells #[] 27)
    go_simp
    refine hK.out _ _ ?_ ?_
    · exact (hKeep.out _ (hbW0))
    clear hK K
    try simp only [Act.put, List.setIfInBounds_toArray, List.set_cons_zero, List.set_cons_succ]
    clear hHeld
    have hHeld := hKeep.out _ (hbW0)
    have hqW := (IsB.new w4.drew #[.int .i64 a, .int .i64 o] 27).below ((Below.refl _ _).alloc (Nat.le_refl _) (.cells #[] 27))
    have hpW := IsB.new (w4.drew.alloc (.cells #[.int .i64 a, .int .i64 o] 27)) #[] 27
    have hz : (w4.drew.alloc (.cells #[.int .i64 a, .int .i64 o] 27)).heap.size = w4.heap.size + 1 := by simp
    rw [hz] at hpW
    clear hz
    obtain ⟨ta, tc, W6, hrun6, hrw6, hat6, hgr6⟩ := run_clone hpW (hSl.out.below hbW0) (by rw [hn.out]; omega) 28
    rw [hn.out] at hrun6 hrw6 hat6
    have hbW : Below w4.drew.heap.size w4.drew W6 := hbW0.grown hgr6 hbW0.size (fun k hk => by simp at hk ⊢; omega)
    refine oneL (i := 6) (by kernel_rfl) rfl (fun K hK => ?_)
    refine step_append_eq rfl (.tmp 49) (.tmp 53) 28 rfl _ _ (.slice ta n tc) W6 rfl rfl hrun6 ?_
    refine hK.out _ _ ?_ ?_
    · exact (hKeep.out _ (hbW))
    clear hK K
    try simp only [Act.put, List.setIfInBounds_toArray]
    clear hHeld
    have hHeld := hKeep.out _ (hbW)
    replace hqW := hqW.grown hgr6 (by simp)
    have hatW : ∀ k, (Value.slice ta tl.length tc).ownBlock = some k → w4.drew.heap.size ≤ k := fun k hk => by
      rw [hn.out] at hk
      rcases hat6 k hk with h | h
      · simp at h ⊢; omega
      · simp at h ⊢; omega
    rw [← hn.out] at hrw6
    obtain ⟨ua, uc, W9, hrun9, hrw9, hat9, hb9⟩ := ask_fin hbW hrw6 hatW hqW (by rw [hn.out]; omega)
    have hS9 := hide (hKeep.out W9 hb9)
    generalize hun : (tl ++ [(a, o)]).length = un at *
    rw [hn.out] at hrun9
    refine oneL (i := 9) (by kernel_rfl) rfl (fun K hK => ?_)
    refine step_append_eq rfl (.tmp 54) (.tmp 56) 28 rfl _ _ (.slice ua un uc) W9 rfl rfl hrun9 ?_
    refine hK.out _ _ ?_ ?_
    · exact hS9.out
    clear hK K
    try simp only [Act.put]
    clear hHeld
    have hHeld := hS9.out
    refine pickA (v := ?_) 10 (some 58) rfl rfl (by kernel_rfl) (by kernel_rfl) (by kernel_rfl) (by decide) (fun _ _ _ h => h) (by rfl) ?_ (by assumption) ?_
    rotate_left
    · intro w'
      go_simp
      try with_reducible rfl
    try simp only [Act.put]
    refine pickA (v := ?_) 11 (some 59) rfl rfl (by kernel_rfl) (by kernel_rfl) (by kernel_rfl) (by decide) (fun _ _ _ h => h) (by rfl) ?_ (by assumption) ?_
    rotate_left
    · intro w'
      go_simp
      try with_reducible rfl
    try simp only [Act.put]
    have hB9 := hide (LD4.out.blk.below hb9)
    have c3 := hB9.out.cell 3
    have f3 := hB9.out.free 3
    simp at c3
    refine lateL (i := 12) (by kernel_rfl) rfl (by decide) (by kernel_rfl) (fun K hK => ?_)
    go_simp
    refine hK.out _ _ ?_
    clear hK K
    try simp only [Act.put, List.setIfInBounds_toArray, List.set_cons_zero, List.set_cons_succ]
    refine doneL (by kernel_rfl) ?_ _
    clear hHeld
    clear c3 f3
    go_wp2
    go_ret2
    have hne : ∀ k, (Value.slice ua un uc).ownBlock = some k → k ≠ b := fun k hk e => by
      have h1 := hat9 k hk
      have h2 := LD4.out.blk.lt
      omega
    refine ⟨rfl, .slice ua un uc, ⟨?_, ?_, by have := hun; simp at this ⊢; have := hn.out; omega⟩, Kp.trans (Kp.of_below B4.out) ((((Kp.refl [b] w4).drew).trans (Kp.of_below (S := []) hb9) (by simp)).set _ _ (Or.inl (by simp))) (by simp), fun k hk => Or.inr (Nat.le_trans B4.out.size (hat9 k hk))⟩
    · have h1 := (LD4.out.cons.below hb9).set 3 (.slice ua un uc)
      simpa [hd] using h1
    · have h1 := hrw9.kept (w' := W9.setCell ⟨b, 3, none⟩ (.slice ua un uc)) fun k hk => Below.heap_setCell _ _ _ _ (hne k hk)
      rw [← hun] at h1 ⊢
      exact h1

end Go.Proofs.Ytapknlmplhjfeaa
