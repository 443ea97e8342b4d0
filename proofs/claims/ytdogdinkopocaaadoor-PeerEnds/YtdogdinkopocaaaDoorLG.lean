/- Package lock: Ask, Leave, Free of a lock that was made. -/
import Derived.Test.YtdogdinkopocaaaDoorLF
namespace Go.Proofs.YtdogdinkopocaaaDoor
open Go.RowKit Go.Maps

set_option maxHeartbeats 2000000 in
theorem ask_bad (b : Nat) (v : Value) (os : List Ow) (w : World) (h : LS w b v os) (a o : Int) (hok : okO a o = false) : Calls Tryd.prog 61 #[.pointer (some ⟨b, 0, none⟩), .agg #[.int .i64 a, .int .i64 o]] w fun e w' => e = .returned (.tuple #[.bool false, .int .i64 70]) ∧ Below w.heap.size w w' := by
  replace h := hide (h.below ((Below.refl w.heap.size w).alloc (Nat.le_refl _) (.cells #[.int .i64 a, .int .i64 o] 52)))
  replace hok := hide (chE_no hok)
  go_enter Tryd.func61, Tryd.ntmps61
  go_wp2_with fail
  refine (chk_yes b _ a o _ h.out.blk).mono ?_; rintro e w1 ⟨rfl, hb⟩
  rw [hok.out]
  have HB := hide (((Below.refl _ w).alloc (Nat.le_refl _) (.cells #[.int .i64 a, .int .i64 o] 52)).trans (hb.mono (by simp)))
  clear hb
  go_wp2
  go_ret2
  exact ⟨rfl, HB.out⟩



set_option maxHeartbeats 4000000 in
set_option maxRecDepth 100000 in
theorem ask_in (b : Nat) (v : Value) (os : List Ow) (w : World) (h : LS w b v os) (a o : Int) (hok : okO a o = true) (P : Nat) (hP : plc (a, o) os = (P : Int)) (hlt : P < os.length) : Calls Tryd.prog 61 #[.pointer (some ⟨b, 0, none⟩), .agg #[.int .i64 a, .int .i64 o]] w fun e w' => e = .returned (.tuple #[.bool (decide (P = 0)), .int .i64 0]) ∧ Below w.heap.size w w' := by
  replace hP := hide hP
  replace hlt := hide hlt
  have mixed : Tryd.prog.follows .mixedOrders = true := by kernel_rfl
  have bel0 : Below w.heap.size w ((w.alloc (.cells #[.int .i64 a, .int .i64 o] 52))) := (Below.refl w.heap.size w).alloc (Nat.le_refl _) (.cells #[.int .i64 a, .int .i64 o] 52)
  have L1 := hide (h.below bel0)
  have J1 := hide (IsB.new w #[.int .i64 a, .int .i64 o] 52)
  have B1 := hide bel0
  have hlen := h.len
  have hlo : Hid (os.length ≤ 100000) := by show os.length ≤ 100000; omega
  obtain ⟨va, vc, rfl⟩ := h.nat
  replace hok := hide (chE_yes hok)
  have h0 := hide h
  clear bel0 h
  generalize hn : os.length = n at *
  replace hn := hide hn
  go_enter Tryd.func61, Tryd.ntmps61
  go_wp2_with fail
  refine (chk_yes b _ a o _ L1.out.blk).mono ?_; rintro e w2 ⟨rfl, hb⟩
  rw [hok.out]
  have L2 := hide (L1.out.below hb)
  have J2 := hide (J1.out.below hb)
  have B2 := hide (B1.out.trans (hb.mono B1.out.size))
  clear hb L1 J1 B1
  have HSl : Hid (Sl w2.drew (.slice va n vc) os) := by
    have := L2.out.row.sl
    exact this.below ((Below.refl _ _).drew)
  generalize hH : w.heap.size = H at J2 ⊢
  replace hH := hide hH
  go_wp2
  have HS0 : Hid ((fun w' => w'.cell? ⟨b, 0, none⟩ = some (.slice va n vc) ∧ w'.cell? ⟨H, 0, none⟩ = some (.int .i64 a) ∧ w'.cell? ⟨H, 1, none⟩ = some (.int .i64 o)) w2.drew) := ⟨L2.out.blk.cell 0, J2.out.cell 0, J2.out.cell 1⟩
  refine regionL 7 (fun w' => w'.cell? ⟨b, 0, none⟩ = some (.slice va n vc) ∧ w'.cell? ⟨H, 0, none⟩ = some (.int .i64 a) ∧ w'.cell? ⟨H, 1, none⟩ = some (.int .i64 o)) mixed HS0.out (fun hHeld => ?_)
  refine pickA (v := ?_) 0 (some 15) rfl rfl (by kernel_rfl) (by kernel_rfl) (by kernel_rfl) (by decide) (fun _ _ _ h => h) (by rfl) ?_ (by assumption) ?_
  rotate_left
  · intro w'
    go_simp
    try with_reducible rfl
  try simp only [Act.put, List.setIfInBounds_toArray, List.set_cons_zero, List.set_cons_succ]
  refine pickA (v := ?_) 1 (some 16) rfl rfl (by kernel_rfl) (by kernel_rfl) (by kernel_rfl) (by decide) (fun _ _ _ h => h) (by rfl) ?_ (by assumption) ?_
  rotate_left
  · intro w'
    go_simp
    try with_reducible rfl
  try simp only [Act.put, List.setIfInBounds_toArray, List.set_cons_zero, List.set_cons_succ]
  refine pickA (v := ?_) 2 (some 17) rfl rfl (by kernel_rfl) (by kernel_rfl) (by kernel_rfl) (by decide) (fun _ _ _ h => h) (by rfl) ?_ (by assumption) ?_
  rotate_left
  · intro w'
    go_simp
    try with_reducible rfl
  try simp only [Act.put, List.setIfInBounds_toArray, List.set_cons_zero, List.set_cons_succ]
  refine pickL (v := ?_) 3 (some 18) rfl rfl (by kernel_rfl) (by kernel_rfl) (by kernel_rfl) (by decide) (by kernel_rfl) (by kernel_rfl) (fun _ _ _ h => h) (by rfl) ?_ (by assumption) ?_
  rotate_left
  · intro w' hSw
    obtain ⟨q0, q1, q2⟩ := hSw
    go_simp
    try with_reducible rfl
  try simp only [Act.put, List.setIfInBounds_toArray, List.set_cons_zero, List.set_cons_succ]
  refine pickL (v := ?_) 4 (some 19) rfl rfl (by kernel_rfl) (by kernel_rfl) (by kernel_rfl) (by decide) (by kernel_rfl) (by kernel_rfl) (fun _ _ _ h => h) (by rfl) ?_ (by assumption) ?_
  rotate_left
  · intro w' hSw
    obtain ⟨q0, q1, q2⟩ := hSw
    go_simp
    try with_reducible rfl
  try simp only [Act.put, List.setIfInBounds_toArray, List.set_cons_zero, List.set_cons_succ]
  refine oneL (i := 5) (by kernel_rfl) rfl (fun K hK => ?_)
  go_simp
  refine (index_any (.slice va n vc) os (by rw [hn.out]; exact hlo.out) a o _ HSl.out).mono ?_; rintro e w3 ⟨rfl, hb⟩
  rw [hP.out]
  have L3 := hide (L2.out.below ((Below.refl w2.heap.size w2).drew.trans (hb.mono (Nat.le_refl _))))
  have J3 := hide (J2.out.below ((Below.refl w2.heap.size w2).drew.trans (hb.mono (Nat.le_refl _))))
  have B3 := hide (B2.out.trans (((Below.refl w2.heap.size w2).drew.trans (hb.mono (Nat.le_refl _))).mono B2.out.size))
  clear hb
  refine hK.out _ _ ?_ ?_
  · exact ⟨L3.out.blk.cell 0, J3.out.cell 0, J3.out.cell 1⟩
  clear hK K
  try simp only [Act.put, List.setIfInBounds_toArray, List.set_cons_zero, List.set_cons_succ]
  clear hHeld
  have hHeld : (fun w' => w'.cell? ⟨b, 0, none⟩ = some (.slice va n vc) ∧ w'.cell? ⟨H, 0, none⟩ = some (.int .i64 a) ∧ w'.cell? ⟨H, 1, none⟩ = some (.int .i64 o)) w3 := ⟨L3.out.blk.cell 0, J3.out.cell 0, J3.out.cell 1⟩
  refine pickA (v := ?_) 6 (some 7) rfl rfl (by kernel_rfl) (by kernel_rfl) (by kernel_rfl) (by decide) (fun _ _ _ h => h) (by rfl) ?_ (by assumption) ?_
  rotate_left
  · intro w'
    go_simp
    try with_reducible rfl
  try simp only [Act.put, List.setIfInBounds_toArray, List.set_cons_zero, List.set_cons_succ]
  refine doneL (by kernel_rfl) ?_ _
  clear hHeld
  have hlt' : P < 65 := by have := hlt.out; omega
  go_wp2
  go_ret2
  refine ⟨?_, B3.out⟩
  by_cases e : P = 0
  · subst e; rfl
  · simp [e]

set_option maxHeartbeats 4000000 in
set_option maxRecDepth 100000 in
theorem ask_many (b : Nat) (v : Value) (os : List Ow) (w : World) (h : LS w b v os) (a o : Int) (hok : okO a o = true) (hP : plc (a, o) os = -1) (hl : os.length = 65) : Calls Tryd.prog 61 #[.pointer (some ⟨b, 0, none⟩), .agg #[.int .i64 a, .int .i64 o]] w fun e w' => e = .returned (.tuple #[.bool false, .int .i64 3]) ∧ Below w.heap.size w w' := by
  replace hP := hide hP
  replace hl := hide hl
  have mixed : Tryd.prog.follows .mixedOrders = true := by kernel_rfl
  have bel0 : Below w.heap.size w ((w.alloc (.cells #[.int .i64 a, .int .i64 o] 52))) := (Below.refl w.heap.size w).alloc (Nat.le_refl _) (.cells #[.int .i64 a, .int .i64 o] 52)
  have L1 := hide (h.below bel0)
  have J1 := hide (IsB.new w #[.int .i64 a, .int .i64 o] 52)
  have B1 := hide bel0
  have hlen := h.len
  have hlo : Hid (os.length ≤ 100000) := by show os.length ≤ 100000; omega
  obtain ⟨va, vc, rfl⟩ := h.nat
  replace hok := hide (chE_yes hok)
  have h0 := hide h
  clear bel0 h
  generalize hn : os.length = n at *
  replace hn := hide hn
  go_enter Tryd.func61, Tryd.ntmps61
  go_wp2_with fail
  refine (chk_yes b _ a o _ L1.out.blk).mono ?_; rintro e w2 ⟨rfl, hb⟩
  rw [hok.out]
  have L2 := hide (L1.out.below hb)
  have J2 := hide (J1.out.below hb)
  have B2 := hide (B1.out.trans (hb.mono B1.out.size))
  clear hb L1 J1 B1
  have HSl : Hid (Sl w2.drew (.slice va n vc) os) := by
    have := L2.out.row.sl
    exact this.below ((Below.refl _ _).drew)
  generalize hH : w.heap.size = H at J2 ⊢
  replace hH := hide hH
  go_wp2
  have HS0 : Hid ((fun w' => w'.cell? ⟨b, 0, none⟩ = some (.slice va n vc) ∧ w'.cell? ⟨H, 0, none⟩ = some (.int .i64 a) ∧ w'.cell? ⟨H, 1, none⟩ = some (.int .i64 o)) w2.drew) := ⟨L2.out.blk.cell 0, J2.out.cell 0, J2.out.cell 1⟩
  refine regionL 7 (fun w' => w'.cell? ⟨b, 0, none⟩ = some (.slice va n vc) ∧ w'.cell? ⟨H, 0, none⟩ = some (.int .i64 a) ∧ w'.cell? ⟨H, 1, none⟩ = some (.int .i64 o)) mixed HS0.out (fun hHeld => ?_)
  refine pickA (v := ?_) 0 (some 15) rfl rfl (by kernel_rfl) (by kernel_rfl) (by kernel_rfl) (by decide) (fun _ _ _ h => h) (by rfl) ?_ (by assumption) ?_
  rotate_left
  · intro w'
    go_simp
    try with_reducible rfl
  try simp only [Act.put, List.setIfInBounds_toArray, List.set_cons_zero, List.set_cons_succ]
  refine pickA (v := ?_) 1 (some 16) rfl rfl (by kernel_rfl) (by kernel_rfl) (by kernel_rfl) (by decide) (fun _ _ _ h => h) (by rfl) ?_ (by assumption) ?_
  rotate_left
  · intro w'
    go_simp
    try with_reducible rfl
  try simp only [Act.put, List.setIfInBounds_toArray, List.set_cons_zero, List.set_cons_succ]
  refine pickA (v := ?_) 2 (some 17) rfl rfl (by kernel_rfl) (by kernel_rfl) (by kernel_rfl) (by decide) (fun _ _ _ h => h) (by rfl) ?_ (by assumption) ?_
  rotate_left
  · intro w'
    go_simp
    try with_reducible rfl
  try simp only [Act.put, List.setIfInBounds_toArray, List.set_cons_zero, List.set_cons_succ]
  refine pickL (v := ?_) 3 (some 18) rfl rfl (by kernel_rfl) (by kernel_rfl) (by kernel_rfl) (by decide) (by kernel_rfl) (by kernel_rfl) (fun _ _ _ h => h) (by rfl) ?_ (by assumption) ?_
  rotate_left
  · intro w' hSw
    obtain ⟨q0, q1, q2⟩ := hSw
    go_simp
    try with_reducible rfl
  try simp only [Act.put, List.setIfInBounds_toArray, List.set_cons_zero, List.set_cons_succ]
  refine pickL (v := ?_) 4 (some 19) rfl rfl (by kernel_rfl) (by kernel_rfl) (by kernel_rfl) (by decide) (by kernel_rfl) (by kernel_rfl) (fun _ _ _ h => h) (by rfl) ?_ (by assumption) ?_
  rotate_left
  · intro w' hSw
    obtain ⟨q0, q1, q2⟩ := hSw
    go_simp
    try with_reducible rfl
  try simp only [Act.put, List.setIfInBounds_toArray, List.set_cons_zero, List.set_cons_succ]
  refine oneL (i := 5) (by kernel_rfl) rfl (fun K hK => ?_)
  go_simp
  refine (index_any (.slice va n vc) os (by rw [hn.out]; exact hlo.out) a o _ HSl.out).mono ?_; rintro e w3 ⟨rfl, hb⟩
  rw [hP.out]
  have L3 := hide (L2.out.below ((Below.refl w2.heap.size w2).drew.trans (hb.mono (Nat.le_refl _))))
  have J3 := hide (J2.out.below ((Below.refl w2.heap.size w2).drew.trans (hb.mono (Nat.le_refl _))))
  have B3 := hide (B2.out.trans (((Below.refl w2.heap.size w2).drew.trans (hb.mono (Nat.le_refl _))).mono B2.out.size))
  clear hb
  refine hK.out _ _ ?_ ?_
  · exact ⟨L3.out.blk.cell 0, J3.out.cell 0, J3.out.cell 1⟩
  clear hK K
  try simp only [Act.put, List.setIfInBounds_toArray, List.set_cons_zero, List.set_cons_succ]
  clear hHeld
  have hHeld : (fun w' => w'.cell? ⟨b, 0, none⟩ = some (.slice va n vc) ∧ w'.cell? ⟨H, 0, none⟩ = some (.int .i64 a) ∧ w'.cell? ⟨H, 1, none⟩ = some (.int .i64 o)) w3 := ⟨L3.out.blk.cell 0, J3.out.cell 0, J3.out.cell 1⟩
  refine pickA (v := ?_) 6 (some 7) rfl rfl (by kernel_rfl) (by kernel_rfl) (by kernel_rfl) (by decide) (fun _ _ _ h => h) (by rfl) ?_ (by assumption) ?_
  rotate_left
  · intro w'
    go_simp
    try with_reducible rfl
  try simp only [Act.put, List.setIfInBounds_toArray, List.set_cons_zero, List.set_cons_succ]
  refine doneL (by kernel_rfl) ?_ _
  clear hHeld
  have b0 := L3.out.blk.cell 0
  simp at b0
  obtain rfl : n = 65 := hl.out
  go_wp2
  go_ret2
  exact ⟨rfl, B3.out⟩

set_option maxHeartbeats 4000000 in
set_option maxRecDepth 100000 in
theorem ask_new (b : Nat) (v : Value) (os : List Ow) (w : World) (h : LS w b v os) (a o : Int) (hok : okO a o = true) (hP : plc (a, o) os = -1) (hl : os.length ≤ 64) : Calls Tryd.prog 61 #[.pointer (some ⟨b, 0, none⟩), .agg #[.int .i64 a, .int .i64 o]] w fun e w' => e = .returned (.tuple #[.bool (decide (os.length = 0)), .int .i64 0]) ∧ ∃ v', Lx w w' b v v' (os ++ [(a, o)]) := by
  replace hP := hide hP
  replace hl := hide hl
  have mixed : Tryd.prog.follows .mixedOrders = true := by kernel_rfl
  have bel0 : Below w.heap.size w ((w.alloc (.cells #[.int .i64 a, .int .i64 o] 52))) := (Below.refl w.heap.size w).alloc (Nat.le_refl _) (.cells #[.int .i64 a, .int .i64 o] 52)
  have L1 := hide (h.below bel0)
  have J1 := hide (IsB.new w #[.int .i64 a, .int .i64 o] 52)
  have B1 := hide bel0
  have hlen := h.len
  have hlo : Hid (os.length ≤ 100000) := by show os.length ≤ 100000; omega
  obtain ⟨va, vc, rfl⟩ := h.nat
  replace hok := hide (chE_yes hok)
  have h0 := hide h
  clear bel0 h
  generalize hn : os.length = n at *
  replace hn := hide hn
  go_enter Tryd.func61, Tryd.ntmps61
  go_wp2_with fail
  refine (chk_yes b _ a o _ L1.out.blk).mono ?_; rintro e w2 ⟨rfl, hb⟩
  rw [hok.out]
  have L2 := hide (L1.out.below hb)
  have J2 := hide (J1.out.below hb)
  have B2 := hide (B1.out.trans (hb.mono B1.out.size))
  clear hb L1 J1 B1
  have HSl : Hid (Sl w2.drew (.slice va n vc) os) := by
    have := L2.out.row.sl
    exact this.below ((Below.refl _ _).drew)
  generalize hH : w.heap.size = H at J2 ⊢
  replace hH := hide hH
  go_wp2
  have HS0 : Hid ((fun w' => w'.cell? ⟨b, 0, none⟩ = some (.slice va n vc) ∧ w'.cell? ⟨H, 0, none⟩ = some (.int .i64 a) ∧ w'.cell? ⟨H, 1, none⟩ = some (.int .i64 o)) w2.drew) := ⟨L2.out.blk.cell 0, J2.out.cell 0, J2.out.cell 1⟩
  refine regionL 7 (fun w' => w'.cell? ⟨b, 0, none⟩ = some (.slice va n vc) ∧ w'.cell? ⟨H, 0, none⟩ = some (.int .i64 a) ∧ w'.cell? ⟨H, 1, none⟩ = some (.int .i64 o)) mixed HS0.out (fun hHeld => ?_)
  refine pickA (v := ?_) 0 (some 15) rfl rfl (by kernel_rfl) (by kernel_rfl) (by kernel_rfl) (by decide) (fun _ _ _ h => h) (by rfl) ?_ (by assumption) ?_
  rotate_left
  · intro w'
    go_simp
    try with_reducible rfl
  try simp only [Act.put, List.setIfInBounds_toArray, List.set_cons_zero, List.set_cons_succ]
  refine pickA (v := ?_) 1 (some 16) rfl rfl (by kernel_rfl) (by kernel_rfl) (by kernel_rfl) (by decide) (fun _ _ _ h => h) (by rfl) ?_ (by assumption) ?_
  rotate_left
  · intro w'
    go_simp
    try with_reducible rfl
  try simp only [Act.put, List.setIfInBounds_toArray, List.set_cons_zero, List.set_cons_succ]
  refine pickA (v := ?_) 2 (some 17) rfl rfl (by kernel_rfl) (by kernel_rfl) (by kernel_rfl) (by decide) (fun _ _ _ h => h) (by rfl) ?_ (by assumption) ?_
  rotate_left
  · intro w'
    go_simp
    try with_reducible rfl
  try simp only [Act.put, List.setIfInBounds_toArray, List.set_cons_zero, List.set_cons_succ]
  refine pickL (v := ?_) 3 (some 18) rfl rfl (by kernel_rfl) (by kernel_rfl) (by kernel_rfl) (by decide) (by kernel_rfl) (by kernel_rfl) (fun _ _ _ h => h) (by rfl) ?_ (by assumption) ?_
  rotate_left
  · intro w' hSw
    obtain ⟨q0, q1, q2⟩ := hSw
    go_simp
    try with_reducible rfl
  try simp only [Act.put, List.setIfInBounds_toArray, List.set_cons_zero, List.set_cons_succ]
  refine pickL (v := ?_) 4 (some 19) rfl rfl (by kernel_rfl) (by kernel_rfl) (by kernel_rfl) (by decide) (by kernel_rfl) (by kernel_rfl) (fun _ _ _ h => h) (by rfl) ?_ (by assumption) ?_
  rotate_left
  · intro w' hSw
    obtain ⟨q0, q1, q2⟩ := hSw
    go_simp
    try with_reducible rfl
  try simp only [Act.put, List.setIfInBounds_toArray, List.set_cons_zero, List.set_cons_succ]
  refine oneL (i := 5) (by kernel_rfl) rfl (fun K hK => ?_)
  go_simp
  refine (index_any (.slice va n vc) os (by rw [hn.out]; exact hlo.out) a o _ HSl.out).mono ?_; rintro e w3 ⟨rfl, hb⟩
  rw [hP.out]
  have L3 := hide (L2.out.below ((Below.refl w2.heap.size w2).drew.trans (hb.mono (Nat.le_refl _))))
  have J3 := hide (J2.out.below ((Below.refl w2.heap.size w2).drew.trans (hb.mono (Nat.le_refl _))))
  have B3 := hide (B2.out.trans (((Below.refl w2.heap.size w2).drew.trans (hb.mono (Nat.le_refl _))).mono B2.out.size))
  clear hb
  refine hK.out _ _ ?_ ?_
  · exact ⟨L3.out.blk.cell 0, J3.out.cell 0, J3.out.cell 1⟩
  clear hK K
  try simp only [Act.put, List.setIfInBounds_toArray, List.set_cons_zero, List.set_cons_succ]
  clear hHeld
  have hHeld : (fun w' => w'.cell? ⟨b, 0, none⟩ = some (.slice va n vc) ∧ w'.cell? ⟨H, 0, none⟩ = some (.int .i64 a) ∧ w'.cell? ⟨H, 1, none⟩ = some (.int .i64 o)) w3 := ⟨L3.out.blk.cell 0, J3.out.cell 0, J3.out.cell 1⟩
  refine pickA (v := ?_) 6 (some 7) rfl rfl (by kernel_rfl) (by kernel_rfl) (by kernel_rfl) (by decide) (fun _ _ _ h => h) (by rfl) ?_ (by assumption) ?_
  rotate_left
  · intro w'
    go_simp
    try with_reducible rfl
  try simp only [Act.put, List.setIfInBounds_toArray, List.set_cons_zero, List.set_cons_succ]
  refine doneL (by kernel_rfl) ?_ _
  clear hHeld
  have b0 := L3.out.blk.cell 0
  have j0 := J3.out.cell 0
  have j1 := J3.out.cell 1
  simp at b0 j0 j1
  have hl64 : n ≤ 64 := hl.out
  clear hlen
  go_wp2_with fail
  clear b0 j0 j1
  have bel4 := (Below.refl w3.heap.size w3).alloc (Nat.le_refl _) (.cells #[.int .i64 a, .int .i64 o] 52)
  have hs4 : Sl (w3.alloc (.cells #[.int .i64 a, .int .i64 o] 52)) (.slice (some ⟨w3.heap.size, 0, none⟩) 1 1) [(a, o)] := by
    refine Or.inr ⟨_, 0, 1, rfl, Nat.le_refl _, by unfold maxLen; omega, by simp, fun j u hu => ?_⟩
    rw [Nat.zero_add, (IsB.new w3 #[.int .i64 a, .int .i64 o] 52).cell j]
    match j, hu with
    | 0, hu => exact hu
    | 1, hu => exact hu
    | j + 2, hu => simp [ows] at hu
  have L4 := L3.out.below bel4
  have hlay := lay_any b _ os _ L4 n (by rw [hn.out]; omega) _ _ hs4 (by simp; omega)
  rw [← hn.out, List.take_length] at hlay
  rw [hn.out] at hlay
  refine hlay.mono ?_; rintro e w5 ⟨rfl, v', hL⟩
  have X5 := hide ((h0.out.lx (B3.out.trans (bel4.mono B3.out.size))).trans hL)
  clear hL hlay hs4 L4 bel4
  go_wp2
  go_ret2
  refine ⟨?_, v', X5.out⟩
  by_cases e : n = 0
  · subst e; rfl
  · simp [e]





set_option maxHeartbeats 4000000 in
set_option maxRecDepth 100000 in
theorem free_bad (b : Nat) (v : Value) (os : List Ow) (w : World) (h : LS w b v os) (a o : Int) (hok : okO a o = false) : Calls Tryd.prog 69 #[.pointer (some ⟨b, 0, none⟩), .agg #[.int .i64 a, .int .i64 o]] w fun e w' => e = .returned (.tuple #[.agg #[.int .i64 0, .int .i64 0], .bool false, .int .i64 70]) ∧ Below w.heap.size w w' := by
  have J := (IsB.new (w.alloc (.cells #[.int .i64 a, .int .i64 o] 52)) #[.int .i64 0, .int .i64 0] 52)
  have HB0 := ((Below.refl w.heap.size w).alloc (Nat.le_refl _) (.cells #[.int .i64 a, .int .i64 o] 52)).alloc (by simp) (.cells #[.int .i64 0, .int .i64 0] 52)
  rw [World.size_alloc] at J
  replace h := hide (h.below HB0)
  replace hok := hide (chE_no hok)
  go_enter Tryd.func69, Tryd.ntmps69
  go_wp2_with fail
  refine (chk_yes b _ a o _ h.out.blk).mono ?_; rintro e w1 ⟨rfl, hb⟩
  rw [hok.out]
  have J1 := J.below hb
  have HB := hide (HB0.trans (hb.mono HB0.size))
  have a0 := J1.cell 0
  have a1 := J1.cell 1
  have f0 := J1.free 0
  have f1 := J1.free 1
  simp at a0 a1
  have J2 := hide J1
  have hlt : w.heap.size + 1 < w1.heap.size := J1.lt
  clear J1 J hb h HB0
  go_wp2
  refine ret_o2 (p := 4) (u := 5) (t := 6) (b := w.heap.size + 1) Tryd.results69 rfl rfl rfl (put2_is J2.out (.int .i64 0) (.int .i64 0)) ?_
  exact ⟨rfl, (Kp.trans (Kp.of_below (S := []) HB.out) (put2_kp w1 (w.heap.size + 1) _ _) (by simp)).to_below (Nat.le_refl _) (by simp)⟩

set_option maxHeartbeats 4000000 in
set_option maxRecDepth 100000 in
theorem free_not (b : Nat) (v : Value) (os : List Ow) (w : World) (h : LS w b v os) (a o : Int) (hok : okO a o = true) (P : Int) (hP : plc (a, o) os = P) (hne : P ≠ 0) : Calls Tryd.prog 69 #[.pointer (some ⟨b, 0, none⟩), .agg #[.int .i64 a, .int .i64 o]] w fun e w' => e = .returned (.tuple #[.agg #[.int .i64 0, .int .i64 0], .bool false, .int .i64 71]) ∧ Below w.heap.size w w' := by
  replace hP := hide hP
  have hne' : (P != 0) = true := by simpa using hne
  clear hne
  have mixed : Tryd.prog.follows .mixedOrders = true := by kernel_rfl
  have bel0 : Below w.heap.size w ((w.alloc (.cells #[.int .i64 a, .int .i64 o] 52)).alloc (.cells #[.int .i64 0, .int .i64 0] 52)) := ((Below.refl w.heap.size w).alloc (Nat.le_refl _) (.cells #[.int .i64 a, .int .i64 o] 52)).alloc (by simp) (.cells #[.int .i64 0, .int .i64 0] 52)
  have L1 := hide (h.below bel0)
  have J1 := hide ((IsB.new w #[.int .i64 a, .int .i64 o] 52).below ((Below.refl _ _).alloc (Nat.le_refl _) (.cells #[.int .i64 0, .int .i64 0] 52)))
  have F0 := IsB.new (w.alloc (.cells #[.int .i64 a, .int .i64 o] 52)) #[.int .i64 0, .int .i64 0] 52
  rw [World.size_alloc] at F0
  have F1 := hide F0
  clear F0
  have B1 := hide bel0
  have hlen := h.len
  have hlo : Hid (os.length ≤ 100000) := by show os.length ≤ 100000; omega
  obtain ⟨va, vc, rfl⟩ := h.nat
  replace hok := hide (chE_yes hok)
  have h0 := hide h
  clear bel0 h
  generalize hn : os.length = n at *
  replace hn := hide hn
  go_enter Tryd.func69, Tryd.ntmps69
  go_wp2_with fail
  refine (chk_yes b _ a o _ L1.out.blk).mono ?_; rintro e w2 ⟨rfl, hb⟩
  rw [hok.out]
  have L2 := hide (L1.out.below hb)
  have J2 := hide (J1.out.below hb)
  have F2 := hide (F1.out.below hb)
  have B2 := hide (B1.out.trans (hb.mono B1.out.size))
  clear hb L1 J1 B1 F1
  have HSl : Hid (Sl w2.drew (.slice va n vc) os) := by
    have := L2.out.row.sl
    exact this.below ((Below.refl _ _).drew)
  generalize hH : w.heap.size = H at J2 ⊢
  replace hH := hide hH
  go_wp2
  have HS0 : Hid ((fun w' => w'.cell? ⟨b, 0, none⟩ = some (.slice va n vc) ∧ w'.cell? ⟨H, 0, none⟩ = some (.int .i64 a) ∧ w'.cell? ⟨H, 1, none⟩ = some (.int .i64 o)) w2.drew) := ⟨L2.out.blk.cell 0, J2.out.cell 0, J2.out.cell 1⟩
  refine regionL 7 (fun w' => w'.cell? ⟨b, 0, none⟩ = some (.slice va n vc) ∧ w'.cell? ⟨H, 0, none⟩ = some (.int .i64 a) ∧ w'.cell? ⟨H, 1, none⟩ = some (.int .i64 o)) mixed HS0.out (fun hHeld => ?_)
  refine pickA (v := ?_) 0 (some 17) rfl rfl (by kernel_rfl) (by kernel_rfl) (by kernel_rfl) (by decide) (fun _ _ _ h => h) (by rfl) ?_ (by assumption) ?_
  rotate_left
  · intro w'
    go_simp
    try with_reducible rfl
  try simp only [Act.put, List.setIfInBounds_toArray, List.set_cons_zero, List.set_cons_succ]
  refine pickA (v := ?_) 1 (some 18) rfl rfl (by kernel_rfl) (by kernel_rfl) (by kernel_rfl) (by decide) (fun _ _ _ h => h) (by rfl) ?_ (by assumption) ?_
  rotate_left
  · intro w'
    go_simp
    try with_reducible rfl
  try simp only [Act.put, List.setIfInBounds_toArray, List.set_cons_zero, List.set_cons_succ]
  refine pickA (v := ?_) 2 (some 19) rfl rfl (by kernel_rfl) (by kernel_rfl) (by kernel_rfl) (by decide) (fun _ _ _ h => h) (by rfl) ?_ (by assumption) ?_
  rotate_left
  · intro w'
    go_simp
    try with_reducible rfl
  try simp only [Act.put, List.setIfInBounds_toArray, List.set_cons_zero, List.set_cons_succ]
  refine pickL (v := ?_) 3 (some 20) rfl rfl (by kernel_rfl) (by kernel_rfl) (by kernel_rfl) (by decide) (by kernel_rfl) (by kernel_rfl) (fun _ _ _ h => h) (by rfl) ?_ (by assumption) ?_
  rotate_left
  · intro w' hSw
    obtain ⟨q0, q1, q2⟩ := hSw
    go_simp
    try with_reducible rfl
  try simp only [Act.put, List.setIfInBounds_toArray, List.set_cons_zero, List.set_cons_succ]
  refine pickL (v := ?_) 4 (some 21) rfl rfl (by kernel_rfl) (by kernel_rfl) (by kernel_rfl) (by decide) (by kernel_rfl) (by kernel_rfl) (fun _ _ _ h => h) (by rfl) ?_ (by assumption) ?_
  rotate_left
  · intro w' hSw
    obtain ⟨q0, q1, q2⟩ := hSw
    go_simp
    try with_reducible rfl
  try simp only [Act.put, List.setIfInBounds_toArray, List.set_cons_zero, List.set_cons_succ]
  refine oneL (i := 5) (by kernel_rfl) rfl (fun K hK => ?_)
  go_simp
  refine (index_any (.slice va n vc) os (by rw [hn.out]; exact hlo.out) a o _ HSl.out).mono ?_; rintro e w3 ⟨rfl, hb⟩
  rw [hP.out]
  have L3 := hide (L2.out.below ((Below.refl w2.heap.size w2).drew.trans (hb.mono (Nat.le_refl _))))
  have J3 := hide (J2.out.below ((Below.refl w2.heap.size w2).drew.trans (hb.mono (Nat.le_refl _))))
  have F3 := hide (F2.out.below ((Below.refl w2.heap.size w2).drew.trans (hb.mono (Nat.le_refl _))))
  have B3 := hide (B2.out.trans (((Below.refl w2.heap.size w2).drew.trans (hb.mono (Nat.le_refl _))).mono B2.out.size))
  clear hb
  refine hK.out _ _ ?_ ?_
  · exact ⟨L3.out.blk.cell 0, J3.out.cell 0, J3.out.cell 1⟩
  clear hK K
  try simp only [Act.put, List.setIfInBounds_toArray, List.set_cons_zero, List.set_cons_succ]
  clear hHeld
  have hHeld : (fun w' => w'.cell? ⟨b, 0, none⟩ = some (.slice va n vc) ∧ w'.cell? ⟨H, 0, none⟩ = some (.int .i64 a) ∧ w'.cell? ⟨H, 1, none⟩ = some (.int .i64 o)) w3 := ⟨L3.out.blk.cell 0, J3.out.cell 0, J3.out.cell 1⟩
  refine pickA (v := .bool true) 6 (some 23) rfl rfl (by kernel_rfl) (by kernel_rfl) (by kernel_rfl) (by decide) (fun _ _ _ h => h) (by rfl) ?_ (by assumption) ?_
  · intro w'
    go_simp
  try simp only [Act.put, List.setIfInBounds_toArray, List.set_cons_zero, List.set_cons_succ]
  refine doneL (by kernel_rfl) ?_ _
  clear hHeld
  have hH2 := hH.out
  rw [hH2] at F3
  replace hH := hide hH2
  clear hH2
  have a0 := F3.out.cell 0
  have a1 := F3.out.cell 1
  have f0 := F3.out.free 0
  have f1 := F3.out.free 1
  have hlt : H + 1 < w3.heap.size := F3.out.lt
  simp at a0 a1
  go_wp2
  refine ret_o2 (p := 4) (u := 5) (t := 6) (b := H + 1) Tryd.results69 rfl rfl rfl (put2_is F3.out (.int .i64 0) (.int .i64 0)) ?_
  exact ⟨rfl, (Kp.trans (Kp.of_below (S := []) B3.out) (put2_kp w3 (H + 1) _ _) (by have := hH.out; simp; omega)).to_below (Nat.le_refl _) (by have := hH.out; simp; try omega)⟩

set_option maxHeartbeats 4000000 in
set_option maxRecDepth 100000 in
theorem free_one (b : Nat) (v : Value) (os : List Ow) (w : World) (h : LS w b v os) (a o : Int) (hok : okO a o = true) (hP : plc (a, o) os = 0) (hl : 0 < os.length) : Calls Tryd.prog 69 #[.pointer (some ⟨b, 0, none⟩), .agg #[.int .i64 a, .int .i64 o]] w fun e w' => e = .returned (.tuple #[.agg #[.int .i64 (hd os.tail).1, .int .i64 (hd os.tail).2], .bool (decide (0 < os.tail.length)), .int .i64 0]) ∧ ∃ v', Lx w w' b v v' os.tail := by
  replace hP := hide hP
  replace hl := hide hl
  have mixed : Tryd.prog.follows .mixedOrders = true := by kernel_rfl
  have bel0 : Below w.heap.size w ((w.alloc (.cells #[.int .i64 a, .int .i64 o] 52)).alloc (.cells #[.int .i64 0, .int .i64 0] 52)) := ((Below.refl w.heap.size w).alloc (Nat.le_refl _) (.cells #[.int .i64 a, .int .i64 o] 52)).alloc (by simp) (.cells #[.int .i64 0, .int .i64 0] 52)
  have L1 := hide (h.below bel0)
  have J1 := hide ((IsB.new w #[.int .i64 a, .int .i64 o] 52).below ((Below.refl _ _).alloc (Nat.le_refl _) (.cells #[.int .i64 0, .int .i64 0] 52)))
  have F0 := IsB.new (w.alloc (.cells #[.int .i64 a, .int .i64 o] 52)) #[.int .i64 0, .int .i64 0] 52
  rw [World.size_alloc] at F0
  have F1 := hide F0
  clear F0
  have B1 := hide bel0
  have hlen := h.len
  have hlo : Hid (os.length ≤ 100000) := by show os.length ≤ 100000; omega
  obtain ⟨va, vc, rfl⟩ := h.nat
  replace hok := hide (chE_yes hok)
  have h0 := hide h
  clear bel0 h
  generalize hn : os.length = n at *
  replace hn := hide hn
  go_enter Tryd.func69, Tryd.ntmps69
  go_wp2_with fail
  refine (chk_yes b _ a o _ L1.out.blk).mono ?_; rintro e w2 ⟨rfl, hb⟩
  rw [hok.out]
  have L2 := hide (L1.out.below hb)
  have J2 := hide (J1.out.below hb)
  have F2 := hide (F1.out.below hb)
  have B2 := hide (B1.out.trans (hb.mono B1.out.size))
  clear hb L1 J1 B1 F1
  have HSl : Hid (Sl w2.drew (.slice va n vc) os) := by
    have := L2.out.row.sl
    exact this.below ((Below.refl _ _).drew)
  generalize hH : w.heap.size = H at J2 ⊢
  replace hH := hide hH
  go_wp2
  have HS0 : Hid ((fun w' => w'.cell? ⟨b, 0, none⟩ = some (.slice va n vc) ∧ w'.cell? ⟨H, 0, none⟩ = some (.int .i64 a) ∧ w'.cell? ⟨H, 1, none⟩ = some (.int .i64 o)) w2.drew) := ⟨L2.out.blk.cell 0, J2.out.cell 0, J2.out.cell 1⟩
  refine regionL 7 (fun w' => w'.cell? ⟨b, 0, none⟩ = some (.slice va n vc) ∧ w'.cell? ⟨H, 0, none⟩ = some (.int .i64 a) ∧ w'.cell? ⟨H, 1, none⟩ = some (.int .i64 o)) mixed HS0.out (fun hHeld => ?_)
  refine pickA (v := ?_) 0 (some 17) rfl rfl (by kernel_rfl) (by kernel_rfl) (by kernel_rfl) (by decide) (fun _ _ _ h => h) (by rfl) ?_ (by assumption) ?_
  rotate_left
  · intro w'
    go_simp
    try with_reducible rfl
  try simp only [Act.put, List.setIfInBounds_toArray, List.set_cons_zero, List.set_cons_succ]
  refine pickA (v := ?_) 1 (some 18) rfl rfl (by kernel_rfl) (by kernel_rfl) (by kernel_rfl) (by decide) (fun _ _ _ h => h) (by rfl) ?_ (by assumption) ?_
  rotate_left
  · intro w'
    go_simp
    try with_reducible rfl
  try simp only [Act.put, List.setIfInBounds_toArray, List.set_cons_zero, List.set_cons_succ]
  refine pickA (v := ?_) 2 (some 19) rfl rfl (by kernel_rfl) (by kernel_rfl) (by kernel_rfl) (by decide) (fun _ _ _ h => h) (by rfl) ?_ (by assumption) ?_
  rotate_left
  · intro w'
    go_simp
    try with_reducible rfl
  try simp only [Act.put, List.setIfInBounds_toArray, List.set_cons_zero, List.set_cons_succ]
  refine pickL (v := ?_) 3 (some 20) rfl rfl (by kernel_rfl) (by kernel_rfl) (by kernel_rfl) (by decide) (by kernel_rfl) (by kernel_rfl) (fun _ _ _ h => h) (by rfl) ?_ (by assumption) ?_
  rotate_left
  · intro w' hSw
    obtain ⟨q0, q1, q2⟩ := hSw
    go_simp
    try with_reducible rfl
  try simp only [Act.put, List.setIfInBounds_toArray, List.set_cons_zero, List.set_cons_succ]
  refine pickL (v := ?_) 4 (some 21) rfl rfl (by kernel_rfl) (by kernel_rfl) (by kernel_rfl) (by decide) (by kernel_rfl) (by kernel_rfl) (fun _ _ _ h => h) (by rfl) ?_ (by assumption) ?_
  rotate_left
  · intro w' hSw
    obtain ⟨q0, q1, q2⟩ := hSw
    go_simp
    try with_reducible rfl
  try simp only [Act.put, List.setIfInBounds_toArray, List.set_cons_zero, List.set_cons_succ]
  refine oneL (i := 5) (by kernel_rfl) rfl (fun K hK => ?_)
  go_simp
  refine (index_any (.slice va n vc) os (by rw [hn.out]; exact hlo.out) a o _ HSl.out).mono ?_; rintro e w3 ⟨rfl, hb⟩
  rw [hP.out]
  have L3 := hide (L2.out.below ((Below.refl w2.heap.size w2).drew.trans (hb.mono (Nat.le_refl _))))
  have J3 := hide (J2.out.below ((Below.refl w2.heap.size w2).drew.trans (hb.mono (Nat.le_refl _))))
  have F3 := hide (F2.out.below ((Below.refl w2.heap.size w2).drew.trans (hb.mono (Nat.le_refl _))))
  have B3 := hide (B2.out.trans (((Below.refl w2.heap.size w2).drew.trans (hb.mono (Nat.le_refl _))).mono B2.out.size))
  clear hb
  refine hK.out _ _ ?_ ?_
  · exact ⟨L3.out.blk.cell 0, J3.out.cell 0, J3.out.cell 1⟩
  clear hK K
  try simp only [Act.put, List.setIfInBounds_toArray, List.set_cons_zero, List.set_cons_succ]
  clear hHeld
  have hHeld : (fun w' => w'.cell? ⟨b, 0, none⟩ = some (.slice va n vc) ∧ w'.cell? ⟨H, 0, none⟩ = some (.int .i64 a) ∧ w'.cell? ⟨H, 1, none⟩ = some (.int .i64 o)) w3 := ⟨L3.out.blk.cell 0, J3.out.cell 0, J3.out.cell 1⟩
  refine pickA (v := ?_) 6 (some 23) rfl rfl (by kernel_rfl) (by kernel_rfl) (by kernel_rfl) (by decide) (fun _ _ _ h => h) (by rfl) ?_ (by assumption) ?_
  rotate_left
  · intro w'
    go_simp
    try with_reducible rfl
  try simp only [Act.put, List.setIfInBounds_toArray, List.set_cons_zero, List.set_cons_succ]
  refine doneL (by kernel_rfl) ?_ _
  clear hHeld
  rw [hH.out] at F3
  go_wp2_with fail
  have hlo2 := lose_any b _ os _ L3.out 0 (by rw [hn.out]; exact hl.out)
  rw [List.eraseIdx_zero] at hlo2
  refine hlo2.mono ?_; rintro e w4 ⟨rfl, v', hL⟩
  have hbH : b ≠ H + 1 := fun e => by
    have h1 := h0.out.blk.lt
    have := hH.out
    omega
  have F4 := hide (F3.out.kp hL.kp (by simp; exact fun e => hbH e.symm))
  have X4 := hide ((h0.out.lx B3.out).trans hL)
  have HvH : Hid (∀ q, v'.ownBlock = some q → q ≠ H + 1) := fun q hq e => by
    rcases hL.at_ q hq with h1 | h1
    · have h2 := (h0.out.row.lt q h1).1
      have := hH.out
      omega
    · have := F3.out.lt
      omega
  have HLen : Hid (os.tail.length = os.length - 1) := List.length_tail
  clear hL hlo2
  generalize htl : os.tail = tl at *
  replace htl := hide htl
  go_wp2_with fail
  refine (holder_any b v' tl _ X4.out.ls).mono ?_; rintro e w5 ⟨rfl, hb⟩
  have F5 := hide (F4.out.below hb)
  have bel6 := (Below.refl w5.heap.size w5).alloc (Nat.le_refl _) (.cells #[.int .i64 (hd tl).1, .int .i64 (hd tl).2] 52)
  have F6 := hide (F5.out.below bel6)
  have X5 := hide (X4.out.bel hb)
  clear hb bel6 F4
  have f0 := F5.out.free 0
  have f1 := F5.out.free 1
  have a0 := F5.out.cell 0
  have a1 := F5.out.cell 1
  have hlt : H + 1 < w5.heap.size := F5.out.lt
  simp at a0 a1
  go_wp2
  generalize hH1 : H + 1 = H1 at *
  have hsw : ∀ x0 x1, IsB (((w5.setCell ⟨H1, 0, none⟩ x0).setCell ⟨H1, 1, none⟩ x1).alloc (.cells #[.int .i64 (hd tl).1, .int .i64 (hd tl).2] 52)) H1 #[x0, x1] 52 := fun x0 x1 => (put2_is F5.out x0 x1).below ((Below.refl _ _).alloc (Nat.le_refl _) _)
  refine ret_o2 (p := 4) (u := 5) (t := 6) (b := H1) Tryd.results69 rfl rfl rfl (hsw _ _) ?_
  have hk : Kp [H1] w5 (((w5.setCell ⟨H1, 0, none⟩ (.int .i64 (hd tl).1)).setCell ⟨H1, 1, none⟩ (.int .i64 (hd tl).2)).alloc (.cells #[.int .i64 (hd tl).1, .int .i64 (hd tl).2] 52)) := (put2_kp w5 H1 _ _).alloc _
  rw [htl.out]
  refine ⟨rfl, v', ⟨X5.out.ls.blk.kp hk (by simp; exact hbH), X5.out.ls.row.kp hk (fun q hq => by simp; exact HvH.out q hq), X5.out.ls.len⟩, X5.out.kp.trans hk (fun q hq => Or.inr (by have := hH.out; simp at hq; omega)), X5.out.at_⟩

end Go.Proofs.YtdogdinkopocaaaDoor
