/- Package link: who belongs to which side; a new record, the first one. -/
import Derived.Test.YtdogdinkopocaaaDoorKL
namespace Go.Proofs.YtdogdinkopocaaaDoor
open Go.RowKit Go.Maps

/-- Does one belong to the left of a key, to its right? -/
def toL (x1 x2 r n : Int) : Bool := decide (ckE x1 x2 = 0) && klt (x1, x2) (r, n)
def toR (x1 x2 r n : Int) : Bool := decide (ckE x1 x2 = 0) && klt (r, n) (x1, x2)
theorem ckE_or (r n : Int) : ckE r n = 0 ∨ ckE r n = 20 := by
  unfold ckE
  split
  · exact Or.inl rfl
  · exact Or.inr rfl

set_option maxHeartbeats 4000000 in
set_option maxRecDepth 100000 in
theorem toLeft_any (p m : Nat) (i r n l b : Int) (w : World) (hp : IsB w p #[.int .i64 i, .int .i64 r, .int .u64 n, .int .i64 l, .int .u64 b, .map (some m)] 98) (x0 x1 x2 x3 x4 : Int) (hR : Ranks w) : Calls Tryd.prog 59 #[(.pointer (some ⟨p, 0, none⟩)), .agg #[.int .i64 x0, .int .i64 x1, .int .u64 x2, .int .i64 x3, .int .u64 x4]] w fun e w' => e = .returned (.bool (toL x1 x2 r n)) ∧ Below w.heap.size w w' := by
  have mixed : Tryd.prog.follows .mixedOrders = true := by kernel_rfl
  have J0 := IsB.new w #[.int .i64 x0, .int .i64 x1, .int .u64 x2, .int .i64 x3, .int .u64 x4] 29
  have bel0 : Below w.heap.size w (w.alloc (.cells #[.int .i64 x0, .int .i64 x1, .int .u64 x2, .int .i64 x3, .int .u64 x4] 29)) := (Below.refl w.heap.size w).alloc (Nat.le_refl _) _
  have L1 := hide (hp.below bel0)
  have J1 := hide J0
  have HR := hide (hR.below bel0)
  have B1 := hide bel0
  clear J0 bel0 hp hR
  rcases ckE_or x1 x2 with hc | hc
  · have hck := hide hc
    have hE : Hid (toL x1 x2 r n = klt (x1, x2) (r, n)) := by simp [Hid, toL, hc]
    clear hc
    rw [hE.out]
    go_enter Tryd.func59, Tryd.ntmps59
    go_wp2
    generalize w.alloc (.cells #[.int .i64 x0, .int .i64 x1, .int .u64 x2, .int .i64 x3, .int .u64 x4] 29) = W0 at L1 J1 B1 HR ⊢
    generalize hH : w.heap.size = H at J1 ⊢
    replace hH := hide hH
    have D1 : Hid (Below w.heap.size w W0.drew) := B1.out.drew
    replace L1 := hide (L1.out.below (Below.refl _ _).drew)
    replace J1 := hide (J1.out.below (Below.refl _ _).drew)
    replace HR := hide (HR.out.below (Below.refl _ _).drew)
    replace B1 := D1
    clear D1
    refine regionL 15 (fun w' => w'.cell? ⟨p, 1, none⟩ = some (.int .i64 r) ∧ w'.cell? ⟨p, 2, none⟩ = some (.int .u64 n) ∧ w'.cell? ⟨H, 1, none⟩ = some (.int .i64 x1) ∧ w'.cell? ⟨H, 2, none⟩ = some (.int .u64 x2)) mixed ⟨L1.out.cell 1, L1.out.cell 2, J1.out.cell 1, J1.out.cell 2⟩ (fun hHeld => ?_)
    refine pickA (v := ?_) 0 (some 5) rfl rfl (by kernel_rfl) (by kernel_rfl) (by kernel_rfl) (by decide) (fun _ _ _ h => h) (by rfl) ?_ (by assumption) ?_
    rotate_left
    · intro w'
      go_simp
      try with_reducible rfl
    try simp only [Act.put, List.setIfInBounds_toArray, List.set_cons_zero, List.set_cons_succ]
    refine pickL (v := ?_) 1 (some 6) rfl rfl (by kernel_rfl) (by kernel_rfl) (by kernel_rfl) (by decide) (by kernel_rfl) (by kernel_rfl) (fun _ _ _ h => h) (by rfl) ?_ (by assumption) ?_
    rotate_left
    · intro w' hSw
      obtain ⟨q0, q1, q2, q3⟩ := hSw
      go_simp
      try with_reducible rfl
    try simp only [Act.put, List.setIfInBounds_toArray, List.set_cons_zero, List.set_cons_succ]
    refine oneL (i := 2) (by kernel_rfl) rfl (fun K hK => ?_)
    go_simp
    refine (kCheck_any x1 x2 _ HR.out).mono ?_; rintro e w2 ⟨rfl, hg⟩
    rw [hck.out]
    have hb4 := hg.below
    have B2 := hide (B1.out.trans (hb4.mono B1.out.size))
    have L2 := hide (L1.out.below hb4)
    have J2 := hide (J1.out.below hb4)
    have hS_w2 : (fun w' => w'.cell? ⟨p, 1, none⟩ = some (.int .i64 r) ∧ w'.cell? ⟨p, 2, none⟩ = some (.int .u64 n) ∧ w'.cell? ⟨H, 1, none⟩ = some (.int .i64 x1) ∧ w'.cell? ⟨H, 2, none⟩ = some (.int .u64 x2)) w2 := ⟨L2.out.cell 1, L2.out.cell 2, J2.out.cell 1, J2.out.cell 2⟩
    clear hg hb4
    refine hK.out _ _ ?_ ?_
    · exact hS_w2
    clear hK K
    try simp only [Act.put, List.setIfInBounds_toArray, List.set_cons_zero, List.set_cons_succ]
    clear hHeld
    have hHeld := hS_w2
    clear hS_w2
    refine pickA (v := ?_) 3 (some 8) rfl rfl (by kernel_rfl) (by kernel_rfl) (by kernel_rfl) (by decide) (fun _ _ _ h => h) (by rfl) ?_ (by assumption) ?_
    rotate_left
    · intro w'
      go_simp
      try with_reducible rfl
    try simp only [Act.put, List.setIfInBounds_toArray, List.set_cons_zero, List.set_cons_succ]
    refine pickA (v := ?_) 4 (some 9) rfl rfl (by kernel_rfl) (by kernel_rfl) (by kernel_rfl) (by decide) (fun _ _ _ h => h) (by rfl) ?_ (by assumption) ?_
    rotate_left
    · intro w'
      go_simp
      try with_reducible rfl
    try simp only [Act.put, List.setIfInBounds_toArray, List.set_cons_zero, List.set_cons_succ]
    refine pickA (v := ?_) 5 (some 10) rfl rfl (by kernel_rfl) (by kernel_rfl) (by kernel_rfl) (by decide) (fun _ _ _ h => h) (by rfl) ?_ (by assumption) ?_
    rotate_left
    · intro w'
      go_simp
      try with_reducible rfl
    try simp only [Act.put, List.setIfInBounds_toArray, List.set_cons_zero, List.set_cons_succ]
    refine pickL (v := ?_) 6 (some 11) rfl rfl (by kernel_rfl) (by kernel_rfl) (by kernel_rfl) (by decide) (by kernel_rfl) (by kernel_rfl) (fun _ _ _ h => h) (by rfl) ?_ (by assumption) ?_
    rotate_left
    · intro w' hSw
      obtain ⟨q0, q1, q2, q3⟩ := hSw
      go_simp
      try with_reducible rfl
    try simp only [Act.put, List.setIfInBounds_toArray, List.set_cons_zero, List.set_cons_succ]
    refine pickA (v := ?_) 7 (some 12) rfl rfl (by kernel_rfl) (by kernel_rfl) (by kernel_rfl) (by decide) (fun _ _ _ h => h) (by rfl) ?_ (by assumption) ?_
    rotate_left
    · intro w'
      go_simp
      try with_reducible rfl
    try simp only [Act.put, List.setIfInBounds_toArray, List.set_cons_zero, List.set_cons_succ]
    refine pickA (v := ?_) 8 (some 13) rfl rfl (by kernel_rfl) (by kernel_rfl) (by kernel_rfl) (by decide) (fun _ _ _ h => h) (by rfl) ?_ (by assumption) ?_
    rotate_left
    · intro w'
      go_simp
      try with_reducible rfl
    try simp only [Act.put, List.setIfInBounds_toArray, List.set_cons_zero, List.set_cons_succ]
    refine pickA (v := ?_) 9 (some 14) rfl rfl (by kernel_rfl) (by kernel_rfl) (by kernel_rfl) (by decide) (fun _ _ _ h => h) (by rfl) ?_ (by assumption) ?_
    rotate_left
    · intro w'
      go_simp
      try with_reducible rfl
    try simp only [Act.put, List.setIfInBounds_toArray, List.set_cons_zero, List.set_cons_succ]
    refine pickA (v := ?_) 10 (some 15) rfl rfl (by kernel_rfl) (by kernel_rfl) (by kernel_rfl) (by decide) (fun _ _ _ h => h) (by rfl) ?_ (by assumption) ?_
    rotate_left
    · intro w'
      go_simp
      try with_reducible rfl
    try simp only [Act.put, List.setIfInBounds_toArray, List.set_cons_zero, List.set_cons_succ]
    refine pickL (v := ?_) 11 (some 16) rfl rfl (by kernel_rfl) (by kernel_rfl) (by kernel_rfl) (by decide) (by kernel_rfl) (by kernel_rfl) (fun _ _ _ h => h) (by rfl) ?_ (by assumption) ?_
    rotate_left
    · intro w' hSw
      obtain ⟨q0, q1, q2, q3⟩ := hSw
      go_simp
      try with_reducible rfl
    try simp only [Act.put, List.setIfInBounds_toArray, List.set_cons_zero, List.set_cons_succ]
    refine oneL (i := 12) (by kernel_rfl) rfl (fun K hK => ?_)
    go_simp
    refine (kLess_any x1 x2 r n _).mono ?_; rintro e w3 ⟨rfl, hg⟩
    have hb4 := hg.below
    have B3 := hide (B2.out.trans (hb4.mono B2.out.size))
    have L3 := hide (L2.out.below hb4)
    have J3 := hide (J2.out.below hb4)
    have hS_w3 : (fun w' => w'.cell? ⟨p, 1, none⟩ = some (.int .i64 r) ∧ w'.cell? ⟨p, 2, none⟩ = some (.int .u64 n) ∧ w'.cell? ⟨H, 1, none⟩ = some (.int .i64 x1) ∧ w'.cell? ⟨H, 2, none⟩ = some (.int .u64 x2)) w3 := ⟨L3.out.cell 1, L3.out.cell 2, J3.out.cell 1, J3.out.cell 2⟩
    clear hg hb4
    refine hK.out _ _ ?_ ?_
    · exact hS_w3
    clear hK K
    try simp only [Act.put, List.setIfInBounds_toArray, List.set_cons_zero, List.set_cons_succ]
    clear hHeld
    have hHeld := hS_w3
    clear hS_w3
    refine pickA (v := ?_) 13 (some 18) rfl rfl (by kernel_rfl) (by kernel_rfl) (by kernel_rfl) (by decide) (fun _ _ _ h => h) (by rfl) ?_ (by assumption) ?_
    rotate_left
    · intro w'
      go_simp
      try with_reducible rfl
    try simp only [Act.put, List.setIfInBounds_toArray, List.set_cons_zero, List.set_cons_succ]
    refine pickA (v := ?_) 14 (some 4) rfl rfl (by kernel_rfl) (by kernel_rfl) (by kernel_rfl) (by decide) (fun _ _ _ h => h) (by rfl) ?_ (by assumption) ?_
    rotate_left
    · intro w'
      go_simp
      try with_reducible rfl
    try simp only [Act.put, List.setIfInBounds_toArray, List.set_cons_zero, List.set_cons_succ]
    refine doneL (by kernel_rfl) ?_ _
    clear hHeld
    go_wp2
    go_ret
    exact ⟨rfl, B3.out⟩
  · have hck := hide hc
    have hE : Hid (toL x1 x2 r n = false) := by simp [Hid, toL, hc]
    clear hc
    rw [hE.out]
    go_enter Tryd.func59, Tryd.ntmps59
    go_wp2
    generalize w.alloc (.cells #[.int .i64 x0, .int .i64 x1, .int .u64 x2, .int .i64 x3, .int .u64 x4] 29) = W0 at L1 J1 B1 HR ⊢
    generalize hH : w.heap.size = H at J1 ⊢
    replace hH := hide hH
    have D1 : Hid (Below w.heap.size w W0.drew) := B1.out.drew
    replace L1 := hide (L1.out.below (Below.refl _ _).drew)
    replace J1 := hide (J1.out.below (Below.refl _ _).drew)
    replace HR := hide (HR.out.below (Below.refl _ _).drew)
    replace B1 := D1
    clear D1
    refine regionL 15 (fun w' => w'.cell? ⟨p, 1, none⟩ = some (.int .i64 r) ∧ w'.cell? ⟨p, 2, none⟩ = some (.int .u64 n) ∧ w'.cell? ⟨H, 1, none⟩ = some (.int .i64 x1) ∧ w'.cell? ⟨H, 2, none⟩ = some (.int .u64 x2)) mixed ⟨L1.out.cell 1, L1.out.cell 2, J1.out.cell 1, J1.out.cell 2⟩ (fun hHeld => ?_)
    refine pickA (v := ?_) 0 (some 5) rfl rfl (by kernel_rfl) (by kernel_rfl) (by kernel_rfl) (by decide) (fun _ _ _ h => h) (by rfl) ?_ (by assumption) ?_
    rotate_left
    · intro w'
      go_simp
      try with_reducible rfl
    try simp only [Act.put, List.setIfInBounds_toArray, List.set_cons_zero, List.set_cons_succ]
    refine pickL (v := ?_) 1 (some 6) rfl rfl (by kernel_rfl) (by kernel_rfl) (by kernel_rfl) (by decide) (by kernel_rfl) (by kernel_rfl) (fun _ _ _ h => h) (by rfl) ?_ (by assumption) ?_
    rotate_left
    · intro w' hSw
      obtain ⟨q0, q1, q2, q3⟩ := hSw
      go_simp
      try with_reducible rfl
    try simp only [Act.put, List.setIfInBounds_toArray, List.set_cons_zero, List.set_cons_succ]
    refine oneL (i := 2) (by kernel_rfl) rfl (fun K hK => ?_)
    go_simp
    refine (kCheck_any x1 x2 _ HR.out).mono ?_; rintro e w2 ⟨rfl, hg⟩
    rw [hck.out]
    have hb4 := hg.below
    have B2 := hide (B1.out.trans (hb4.mono B1.out.size))
    have L2 := hide (L1.out.below hb4)
    have J2 := hide (J1.out.below hb4)
    have hS_w2 : (fun w' => w'.cell? ⟨p, 1, none⟩ = some (.int .i64 r) ∧ w'.cell? ⟨p, 2, none⟩ = some (.int .u64 n) ∧ w'.cell? ⟨H, 1, none⟩ = some (.int .i64 x1) ∧ w'.cell? ⟨H, 2, none⟩ = some (.int .u64 x2)) w2 := ⟨L2.out.cell 1, L2.out.cell 2, J2.out.cell 1, J2.out.cell 2⟩
    clear hg hb4
    refine hK.out _ _ ?_ ?_
    · exact hS_w2
    clear hK K
    try simp only [Act.put, List.setIfInBounds_toArray, List.set_cons_zero, List.set_cons_succ]
    clear hHeld
    have hHeld := hS_w2
    clear hS_w2
    refine pickA (v := ?_) 3 (some 8) rfl rfl (by kernel_rfl) (by kernel_rfl) (by kernel_rfl) (by decide) (fun _ _ _ h => h) (by rfl) ?_ (by assumption) ?_
    rotate_left
    · intro w'
      go_simp
      try with_reducible rfl
    try simp only [Act.put, List.setIfInBounds_toArray, List.set_cons_zero, List.set_cons_succ]
    refine pickA (v := ?_) 4 (some 9) rfl rfl (by kernel_rfl) (by kernel_rfl) (by kernel_rfl) (by decide) (fun _ _ _ h => h) (by rfl) ?_ (by assumption) ?_
    rotate_left
    · intro w'
      go_simp
      try with_reducible rfl
    try simp only [Act.put, List.setIfInBounds_toArray, List.set_cons_zero, List.set_cons_succ]
    refine pickN 5 (some 10) rfl rfl (by kernel_rfl) (by kernel_rfl) (by kernel_rfl) (by decide) (fun _ _ _ h => h) (by rfl) (by assumption) ?_
    try simp only [Act.put, List.setIfInBounds_toArray, List.set_cons_zero, List.set_cons_succ]
    refine pickN 6 (some 11) rfl rfl (by kernel_rfl) (by kernel_rfl) (by kernel_rfl) (by decide) (fun _ _ _ h => h) (by rfl) (by assumption) ?_
    try simp only [Act.put, List.setIfInBounds_toArray, List.set_cons_zero, List.set_cons_succ]
    refine pickN 7 (some 12) rfl rfl (by kernel_rfl) (by kernel_rfl) (by kernel_rfl) (by decide) (fun _ _ _ h => h) (by rfl) (by assumption) ?_
    try simp only [Act.put, List.setIfInBounds_toArray, List.set_cons_zero, List.set_cons_succ]
    refine pickN 8 (some 13) rfl rfl (by kernel_rfl) (by kernel_rfl) (by kernel_rfl) (by decide) (fun _ _ _ h => h) (by rfl) (by assumption) ?_
    try simp only [Act.put, List.setIfInBounds_toArray, List.set_cons_zero, List.set_cons_succ]
    refine pickN 9 (some 14) rfl rfl (by kernel_rfl) (by kernel_rfl) (by kernel_rfl) (by decide) (fun _ _ _ h => h) (by rfl) (by assumption) ?_
    try simp only [Act.put, List.setIfInBounds_toArray, List.set_cons_zero, List.set_cons_succ]
    refine pickN 10 (some 15) rfl rfl (by kernel_rfl) (by kernel_rfl) (by kernel_rfl) (by decide) (fun _ _ _ h => h) (by rfl) (by assumption) ?_
    try simp only [Act.put, List.setIfInBounds_toArray, List.set_cons_zero, List.set_cons_succ]
    refine pickN 11 (some 16) rfl rfl (by kernel_rfl) (by kernel_rfl) (by kernel_rfl) (by decide) (fun _ _ _ h => h) (by rfl) (by assumption) ?_
    try simp only [Act.put, List.setIfInBounds_toArray, List.set_cons_zero, List.set_cons_succ]
    refine pickN 12 (some 17) rfl rfl (by kernel_rfl) (by kernel_rfl) (by kernel_rfl) (by decide) (fun _ _ _ h => h) (by rfl) (by assumption) ?_
    try simp only [Act.put, List.setIfInBounds_toArray, List.set_cons_zero, List.set_cons_succ]
    refine pickA (v := ?_) 13 (some 18) rfl rfl (by kernel_rfl) (by kernel_rfl) (by kernel_rfl) (by decide) (fun _ _ _ h => h) (by rfl) ?_ (by assumption) ?_
    rotate_left
    · intro w'
      go_simp
      try with_reducible rfl
    try simp only [Act.put, List.setIfInBounds_toArray, List.set_cons_zero, List.set_cons_succ]
    refine pickA (v := ?_) 14 (some 4) rfl rfl (by kernel_rfl) (by kernel_rfl) (by kernel_rfl) (by decide) (fun _ _ _ h => h) (by rfl) ?_ (by assumption) ?_
    rotate_left
    · intro w'
      go_simp
      try with_reducible rfl
    try simp only [Act.put, List.setIfInBounds_toArray, List.set_cons_zero, List.set_cons_succ]
    refine doneL (by kernel_rfl) ?_ _
    clear hHeld
    go_wp2
    go_ret
    exact ⟨rfl, B2.out⟩

set_option maxHeartbeats 4000000 in
set_option maxRecDepth 100000 in
theorem toRight_any (p m : Nat) (i r n l b : Int) (w : World) (hp : IsB w p #[.int .i64 i, .int .i64 r, .int .u64 n, .int .i64 l, .int .u64 b, .map (some m)] 98) (x0 x1 x2 x3 x4 : Int) (hR : Ranks w) : Calls Tryd.prog 53 #[(.pointer (some ⟨p, 0, none⟩)), .agg #[.int .i64 x0, .int .i64 x1, .int .u64 x2, .int .i64 x3, .int .u64 x4]] w fun e w' => e = .returned (.bool (toR x1 x2 r n)) ∧ Below w.heap.size w w' := by
  have mixed : Tryd.prog.follows .mixedOrders = true := by kernel_rfl
  have J0 := IsB.new w #[.int .i64 x0, .int .i64 x1, .int .u64 x2, .int .i64 x3, .int .u64 x4] 29
  have bel0 : Below w.heap.size w (w.alloc (.cells #[.int .i64 x0, .int .i64 x1, .int .u64 x2, .int .i64 x3, .int .u64 x4] 29)) := (Below.refl w.heap.size w).alloc (Nat.le_refl _) _
  have L1 := hide (hp.below bel0)
  have J1 := hide J0
  have HR := hide (hR.below bel0)
  have B1 := hide bel0
  clear J0 bel0 hp hR
  rcases ckE_or x1 x2 with hc | hc
  · have hck := hide hc
    have hE : Hid (toR x1 x2 r n = klt (r, n) (x1, x2)) := by simp [Hid, toR, hc]
    clear hc
    rw [hE.out]
    go_enter Tryd.func53, Tryd.ntmps53
    go_wp2
    generalize w.alloc (.cells #[.int .i64 x0, .int .i64 x1, .int .u64 x2, .int .i64 x3, .int .u64 x4] 29) = W0 at L1 J1 B1 HR ⊢
    generalize hH : w.heap.size = H at J1 ⊢
    replace hH := hide hH
    have D1 : Hid (Below w.heap.size w W0.drew) := B1.out.drew
    replace L1 := hide (L1.out.below (Below.refl _ _).drew)
    replace J1 := hide (J1.out.below (Below.refl _ _).drew)
    replace HR := hide (HR.out.below (Below.refl _ _).drew)
    replace B1 := D1
    clear D1
    refine regionL 15 (fun w' => w'.cell? ⟨p, 1, none⟩ = some (.int .i64 r) ∧ w'.cell? ⟨p, 2, none⟩ = some (.int .u64 n) ∧ w'.cell? ⟨H, 1, none⟩ = some (.int .i64 x1) ∧ w'.cell? ⟨H, 2, none⟩ = some (.int .u64 x2)) mixed ⟨L1.out.cell 1, L1.out.cell 2, J1.out.cell 1, J1.out.cell 2⟩ (fun hHeld => ?_)
    refine pickA (v := ?_) 0 (some 5) rfl rfl (by kernel_rfl) (by kernel_rfl) (by kernel_rfl) (by decide) (fun _ _ _ h => h) (by rfl) ?_ (by assumption) ?_
    rotate_left
    · intro w'
      go_simp
      try with_reducible rfl
    try simp only [Act.put, List.setIfInBounds_toArray, List.set_cons_zero, List.set_cons_succ]
    refine pickL (v := ?_) 1 (some 6) rfl rfl (by kernel_rfl) (by kernel_rfl) (by kernel_rfl) (by decide) (by kernel_rfl) (by kernel_rfl) (fun _ _ _ h => h) (by rfl) ?_ (by assumption) ?_
    rotate_left
    · intro w' hSw
      obtain ⟨q0, q1, q2, q3⟩ := hSw
      go_simp
      try with_reducible rfl
    try simp only [Act.put, List.setIfInBounds_toArray, List.set_cons_zero, List.set_cons_succ]
    refine oneL (i := 2) (by kernel_rfl) rfl (fun K hK => ?_)
    go_simp
    refine (kCheck_any x1 x2 _ HR.out).mono ?_; rintro e w2 ⟨rfl, hg⟩
    rw [hck.out]
    have hb4 := hg.below
    have B2 := hide (B1.out.trans (hb4.mono B1.out.size))
    have L2 := hide (L1.out.below hb4)
    have J2 := hide (J1.out.below hb4)
    have hS_w2 : (fun w' => w'.cell? ⟨p, 1, none⟩ = some (.int .i64 r) ∧ w'.cell? ⟨p, 2, none⟩ = some (.int .u64 n) ∧ w'.cell? ⟨H, 1, none⟩ = some (.int .i64 x1) ∧ w'.cell? ⟨H, 2, none⟩ = some (.int .u64 x2)) w2 := ⟨L2.out.cell 1, L2.out.cell 2, J2.out.cell 1, J2.out.cell 2⟩
    clear hg hb4
    refine hK.out _ _ ?_ ?_
    · exact hS_w2
    clear hK K
    try simp only [Act.put, List.setIfInBounds_toArray, List.set_cons_zero, List.set_cons_succ]
    clear hHeld
    have hHeld := hS_w2
    clear hS_w2
    refine pickA (v := ?_) 3 (some 8) rfl rfl (by kernel_rfl) (by kernel_rfl) (by kernel_rfl) (by decide) (fun _ _ _ h => h) (by rfl) ?_ (by assumption) ?_
    rotate_left
    · intro w'
      go_simp
      try with_reducible rfl
    try simp only [Act.put, List.setIfInBounds_toArray, List.set_cons_zero, List.set_cons_succ]
    refine pickA (v := ?_) 4 (some 9) rfl rfl (by kernel_rfl) (by kernel_rfl) (by kernel_rfl) (by decide) (fun _ _ _ h => h) (by rfl) ?_ (by assumption) ?_
    rotate_left
    · intro w'
      go_simp
      try with_reducible rfl
    try simp only [Act.put, List.setIfInBounds_toArray, List.set_cons_zero, List.set_cons_succ]
    refine pickA (v := ?_) 5 (some 10) rfl rfl (by kernel_rfl) (by kernel_rfl) (by kernel_rfl) (by decide) (fun _ _ _ h => h) (by rfl) ?_ (by assumption) ?_
    rotate_left
    · intro w'
      go_simp
      try with_reducible rfl
    try simp only [Act.put, List.setIfInBounds_toArray, List.set_cons_zero, List.set_cons_succ]
    refine pickA (v := ?_) 6 (some 11) rfl rfl (by kernel_rfl) (by kernel_rfl) (by kernel_rfl) (by decide) (fun _ _ _ h => h) (by rfl) ?_ (by assumption) ?_
    rotate_left
    · intro w'
      go_simp
      try with_reducible rfl
    try simp only [Act.put, List.setIfInBounds_toArray, List.set_cons_zero, List.set_cons_succ]
    refine pickA (v := ?_) 7 (some 12) rfl rfl (by kernel_rfl) (by kernel_rfl) (by kernel_rfl) (by decide) (fun _ _ _ h => h) (by rfl) ?_ (by assumption) ?_
    rotate_left
    · intro w'
      go_simp
      try with_reducible rfl
    try simp only [Act.put, List.setIfInBounds_toArray, List.set_cons_zero, List.set_cons_succ]
    refine pickA (v := ?_) 8 (some 13) rfl rfl (by kernel_rfl) (by kernel_rfl) (by kernel_rfl) (by decide) (fun _ _ _ h => h) (by rfl) ?_ (by assumption) ?_
    rotate_left
    · intro w'
      go_simp
      try with_reducible rfl
    try simp only [Act.put, List.setIfInBounds_toArray, List.set_cons_zero, List.set_cons_succ]
    refine pickL (v := ?_) 9 (some 14) rfl rfl (by kernel_rfl) (by kernel_rfl) (by kernel_rfl) (by decide) (by kernel_rfl) (by kernel_rfl) (fun _ _ _ h => h) (by rfl) ?_ (by assumption) ?_
    rotate_left
    · intro w' hSw
      obtain ⟨q0, q1, q2, q3⟩ := hSw
      go_simp
      try with_reducible rfl
    try simp only [Act.put, List.setIfInBounds_toArray, List.set_cons_zero, List.set_cons_succ]
    refine pickA (v := ?_) 10 (some 15) rfl rfl (by kernel_rfl) (by kernel_rfl) (by kernel_rfl) (by decide) (fun _ _ _ h => h) (by rfl) ?_ (by assumption) ?_
    rotate_left
    · intro w'
      go_simp
      try with_reducible rfl
    try simp only [Act.put, List.setIfInBounds_toArray, List.set_cons_zero, List.set_cons_succ]
    refine pickL (v := ?_) 11 (some 16) rfl rfl (by kernel_rfl) (by kernel_rfl) (by kernel_rfl) (by decide) (by kernel_rfl) (by kernel_rfl) (fun _ _ _ h => h) (by rfl) ?_ (by assumption) ?_
    rotate_left
    · intro w' hSw
      obtain ⟨q0, q1, q2, q3⟩ := hSw
      go_simp
      try with_reducible rfl
    try simp only [Act.put, List.setIfInBounds_toArray, List.set_cons_zero, List.set_cons_succ]
    refine oneL (i := 12) (by kernel_rfl) rfl (fun K hK => ?_)
    go_simp
    refine (kLess_any r n x1 x2 _).mono ?_; rintro e w3 ⟨rfl, hg⟩
    have hb4 := hg.below
    have B3 := hide (B2.out.trans (hb4.mono B2.out.size))
    have L3 := hide (L2.out.below hb4)
    have J3 := hide (J2.out.below hb4)
    have hS_w3 : (fun w' => w'.cell? ⟨p, 1, none⟩ = some (.int .i64 r) ∧ w'.cell? ⟨p, 2, none⟩ = some (.int .u64 n) ∧ w'.cell? ⟨H, 1, none⟩ = some (.int .i64 x1) ∧ w'.cell? ⟨H, 2, none⟩ = some (.int .u64 x2)) w3 := ⟨L3.out.cell 1, L3.out.cell 2, J3.out.cell 1, J3.out.cell 2⟩
    clear hg hb4
    refine hK.out _ _ ?_ ?_
    · exact hS_w3
    clear hK K
    try simp only [Act.put, List.setIfInBounds_toArray, List.set_cons_zero, List.set_cons_succ]
    clear hHeld
    have hHeld := hS_w3
    clear hS_w3
    refine pickA (v := ?_) 13 (some 18) rfl rfl (by kernel_rfl) (by kernel_rfl) (by kernel_rfl) (by decide) (fun _ _ _ h => h) (by rfl) ?_ (by assumption) ?_
    rotate_left
    · intro w'
      go_simp
      try with_reducible rfl
    try simp only [Act.put, List.setIfInBounds_toArray, List.set_cons_zero, List.set_cons_succ]
    refine pickA (v := ?_) 14 (some 4) rfl rfl (by kernel_rfl) (by kernel_rfl) (by kernel_rfl) (by decide) (fun _ _ _ h => h) (by rfl) ?_ (by assumption) ?_
    rotate_left
    · intro w'
      go_simp
      try with_reducible rfl
    try simp only [Act.put, List.setIfInBounds_toArray, List.set_cons_zero, List.set_cons_succ]
    refine doneL (by kernel_rfl) ?_ _
    clear hHeld
    go_wp2
    go_ret
    exact ⟨rfl, B3.out⟩
  · have hck := hide hc
    have hE : Hid (toR x1 x2 r n = false) := by simp [Hid, toR, hc]
    clear hc
    rw [hE.out]
    go_enter Tryd.func53, Tryd.ntmps53
    go_wp2
    generalize w.alloc (.cells #[.int .i64 x0, .int .i64 x1, .int .u64 x2, .int .i64 x3, .int .u64 x4] 29) = W0 at L1 J1 B1 HR ⊢
    generalize hH : w.heap.size = H at J1 ⊢
    replace hH := hide hH
    have D1 : Hid (Below w.heap.size w W0.drew) := B1.out.drew
    replace L1 := hide (L1.out.below (Below.refl _ _).drew)
    replace J1 := hide (J1.out.below (Below.refl _ _).drew)
    replace HR := hide (HR.out.below (Below.refl _ _).drew)
    replace B1 := D1
    clear D1
    refine regionL 15 (fun w' => w'.cell? ⟨p, 1, none⟩ = some (.int .i64 r) ∧ w'.cell? ⟨p, 2, none⟩ = some (.int .u64 n) ∧ w'.cell? ⟨H, 1, none⟩ = some (.int .i64 x1) ∧ w'.cell? ⟨H, 2, none⟩ = some (.int .u64 x2)) mixed ⟨L1.out.cell 1, L1.out.cell 2, J1.out.cell 1, J1.out.cell 2⟩ (fun hHeld => ?_)
    refine pickA (v := ?_) 0 (some 5) rfl rfl (by kernel_rfl) (by kernel_rfl) (by kernel_rfl) (by decide) (fun _ _ _ h => h) (by rfl) ?_ (by assumption) ?_
    rotate_left
    · intro w'
      go_simp
      try with_reducible rfl
    try simp only [Act.put, List.setIfInBounds_toArray, List.set_cons_zero, List.set_cons_succ]
    refine pickL (v := ?_) 1 (some 6) rfl rfl (by kernel_rfl) (by kernel_rfl) (by kernel_rfl) (by decide) (by kernel_rfl) (by kernel_rfl) (fun _ _ _ h => h) (by rfl) ?_ (by assumption) ?_
    rotate_left
    · intro w' hSw
      obtain ⟨q0, q1, q2, q3⟩ := hSw
      go_simp
      try with_reducible rfl
    try simp only [Act.put, List.setIfInBounds_toArray, List.set_cons_zero, List.set_cons_succ]
    refine oneL (i := 2) (by kernel_rfl) rfl (fun K hK => ?_)
    go_simp
    refine (kCheck_any x1 x2 _ HR.out).mono ?_; rintro e w2 ⟨rfl, hg⟩
    rw [hck.out]
    have hb4 := hg.below
    have B2 := hide (B1.out.trans (hb4.mono B1.out.size))
    have L2 := hide (L1.out.below hb4)
    have J2 := hide (J1.out.below hb4)
    have hS_w2 : (fun w' => w'.cell? ⟨p, 1, none⟩ = some (.int .i64 r) ∧ w'.cell? ⟨p, 2, none⟩ = some (.int .u64 n) ∧ w'.cell? ⟨H, 1, none⟩ = some (.int .i64 x1) ∧ w'.cell? ⟨H, 2, none⟩ = some (.int .u64 x2)) w2 := ⟨L2.out.cell 1, L2.out.cell 2, J2.out.cell 1, J2.out.cell 2⟩
    clear hg hb4
    refine hK.out _ _ ?_ ?_
    · exact hS_w2
    clear hK K
    try simp only [Act.put, List.setIfInBounds_toArray, List.set_cons_zero, List.set_cons_succ]
    clear hHeld
    have hHeld := hS_w2
    clear hS_w2
    refine pickA (v := ?_) 3 (some 8) rfl rfl (by kernel_rfl) (by kernel_rfl) (by kernel_rfl) (by decide) (fun _ _ _ h => h) (by rfl) ?_ (by assumption) ?_
    rotate_left
    · intro w'
      go_simp
      try with_reducible rfl
    try simp only [Act.put, List.setIfInBounds_toArray, List.set_cons_zero, List.set_cons_succ]
    refine pickA (v := ?_) 4 (some 9) rfl rfl (by kernel_rfl) (by kernel_rfl) (by kernel_rfl) (by decide) (fun _ _ _ h => h) (by rfl) ?_ (by assumption) ?_
    rotate_left
    · intro w'
      go_simp
      try with_reducible rfl
    try simp only [Act.put, List.setIfInBounds_toArray, List.set_cons_zero, List.set_cons_succ]
    refine pickN 5 (some 10) rfl rfl (by kernel_rfl) (by kernel_rfl) (by kernel_rfl) (by decide) (fun _ _ _ h => h) (by rfl) (by assumption) ?_
    try simp only [Act.put, List.setIfInBounds_toArray, List.set_cons_zero, List.set_cons_succ]
    refine pickN 6 (some 11) rfl rfl (by kernel_rfl) (by kernel_rfl) (by kernel_rfl) (by decide) (fun _ _ _ h => h) (by rfl) (by assumption) ?_
    try simp only [Act.put, List.setIfInBounds_toArray, List.set_cons_zero, List.set_cons_succ]
    refine pickN 7 (some 12) rfl rfl (by kernel_rfl) (by kernel_rfl) (by kernel_rfl) (by decide) (fun _ _ _ h => h) (by rfl) (by assumption) ?_
    try simp only [Act.put, List.setIfInBounds_toArray, List.set_cons_zero, List.set_cons_succ]
    refine pickN 8 (some 13) rfl rfl (by kernel_rfl) (by kernel_rfl) (by kernel_rfl) (by decide) (fun _ _ _ h => h) (by rfl) (by assumption) ?_
    try simp only [Act.put, List.setIfInBounds_toArray, List.set_cons_zero, List.set_cons_succ]
    refine pickN 9 (some 14) rfl rfl (by kernel_rfl) (by kernel_rfl) (by kernel_rfl) (by decide) (fun _ _ _ h => h) (by rfl) (by assumption) ?_
    try simp only [Act.put, List.setIfInBounds_toArray, List.set_cons_zero, List.set_cons_succ]
    refine pickN 10 (some 15) rfl rfl (by kernel_rfl) (by kernel_rfl) (by kernel_rfl) (by decide) (fun _ _ _ h => h) (by rfl) (by assumption) ?_
    try simp only [Act.put, List.setIfInBounds_toArray, List.set_cons_zero, List.set_cons_succ]
    refine pickN 11 (some 16) rfl rfl (by kernel_rfl) (by kernel_rfl) (by kernel_rfl) (by decide) (fun _ _ _ h => h) (by rfl) (by assumption) ?_
    try simp only [Act.put, List.setIfInBounds_toArray, List.set_cons_zero, List.set_cons_succ]
    refine pickN 12 (some 17) rfl rfl (by kernel_rfl) (by kernel_rfl) (by kernel_rfl) (by decide) (fun _ _ _ h => h) (by rfl) (by assumption) ?_
    try simp only [Act.put, List.setIfInBounds_toArray, List.set_cons_zero, List.set_cons_succ]
    refine pickA (v := ?_) 13 (some 18) rfl rfl (by kernel_rfl) (by kernel_rfl) (by kernel_rfl) (by decide) (fun _ _ _ h => h) (by rfl) ?_ (by assumption) ?_
    rotate_left
    · intro w'
      go_simp
      try with_reducible rfl
    try simp only [Act.put, List.setIfInBounds_toArray, List.set_cons_zero, List.set_cons_succ]
    refine pickA (v := ?_) 14 (some 4) rfl rfl (by kernel_rfl) (by kernel_rfl) (by kernel_rfl) (by decide) (fun _ _ _ h => h) (by rfl) ?_ (by assumption) ?_
    rotate_left
    · intro w'
      go_simp
      try with_reducible rfl
    try simp only [Act.put, List.setIfInBounds_toArray, List.set_cons_zero, List.set_cons_succ]
    refine doneL (by kernel_rfl) ?_ _
    clear hHeld
    go_wp2
    go_ret
    exact ⟨rfl, B2.out⟩

/-- Block rb is a record: its lock is block lb. -/
structure RecAt (w : World) (rb lb : Nat) (v : Value) (os : List Ow) (x y : Rf) : Prop where
  blk : IsB w rb #[.pointer (some ⟨lb, 0, none⟩), .int .i64 x.1, .int .i64 x.2.1, .int .u64 x.2.2.1, .int .i64 x.2.2.2.1, .int .u64 x.2.2.2.2, .int .i64 y.1, .int .i64 y.2.1, .int .u64 y.2.2.1, .int .i64 y.2.2.2.1, .int .u64 y.2.2.2.2] 128
  ls : LS w lb v os
theorem RecAt.below {w w' : World} {rb lb : Nat} {v : Value} {os : List Ow} {x y : Rf} (h : RecAt w rb lb v os x y) (hb : Below w.heap.size w w') : RecAt w' rb lb v os x y := ⟨h.blk.below hb, h.ls.below hb⟩

set_option maxHeartbeats 4000000 in
set_option maxRecDepth 100000 in
theorem newRecord_any (x0 x1 x2 x3 x4 y0 y1 y2 y3 y4 : Int) (w : World) : Calls Tryd.prog 60 #[.agg #[.int .i64 x0, .int .i64 x1, .int .u64 x2, .int .i64 x3, .int .u64 x4], .agg #[.int .i64 y0, .int .i64 y1, .int .u64 y2, .int .i64 y3, .int .u64 y4]] w fun e w' => ∃ rb lb, e = .returned (.pointer (some ⟨rb, 0, none⟩)) ∧ w.heap.size ≤ rb ∧ w.heap.size ≤ lb ∧ RecAt w' rb lb (.slice none 0 0) [] (x0, x1, x2, x3, x4) (y0, y1, y2, y3, y4) ∧ Below w.heap.size w w' := by
  have mixed : Tryd.prog.follows .mixedOrders = true := by kernel_rfl
  have I0 := (IsB.new w #[.int .i64 x0, .int .i64 x1, .int .u64 x2, .int .i64 x3, .int .u64 x4] 29).below ((Below.refl _ _).alloc (Nat.le_refl _) (.cells #[.int .i64 y0, .int .i64 y1, .int .u64 y2, .int .i64 y3, .int .u64 y4] 29))
  have J0 := IsB.new (w.alloc (.cells #[.int .i64 x0, .int .i64 x1, .int .u64 x2, .int .i64 x3, .int .u64 x4] 29)) #[.int .i64 y0, .int .i64 y1, .int .u64 y2, .int .i64 y3, .int .u64 y4] 29
  rw [World.size_alloc] at J0
  have B0 := ((Below.refl w.heap.size w).alloc (Nat.le_refl _) (.cells #[.int .i64 x0, .int .i64 x1, .int .u64 x2, .int .i64 x3, .int .u64 x4] 29)).alloc (by simp) (.cells #[.int .i64 y0, .int .i64 y1, .int .u64 y2, .int .i64 y3, .int .u64 y4] 29)
  have hsz : ((w.alloc (.cells #[.int .i64 x0, .int .i64 x1, .int .u64 x2, .int .i64 x3, .int .u64 x4] 29)).alloc (.cells #[.int .i64 y0, .int .i64 y1, .int .u64 y2, .int .i64 y3, .int .u64 y4] 29)).heap.size = w.heap.size + 1 + 1 := by simp
  have I1 := hide (I0.below (Below.refl _ _).drew)
  have J1 := hide (J0.below (Below.refl _ _).drew)
  have B1 := hide B0.drew
  replace hsz := hide hsz
  clear I0 J0 B0
  go_enter Tryd.func60, Tryd.ntmps60
  go_wp2
  generalize (w.alloc (.cells #[.int .i64 x0, .int .i64 x1, .int .u64 x2, .int .i64 x3, .int .u64 x4] 29)).alloc (.cells #[.int .i64 y0, .int .i64 y1, .int .u64 y2, .int .i64 y3, .int .u64 y4] 29) = W0 at I1 J1 B1 hsz ⊢
  generalize hH : w.heap.size = H at I1 J1 ⊢
  replace hH := hide hH
  refine regionL 6 (fun w' => w'.cell? ⟨H, 0, none⟩ = some (.int .i64 x0) ∧ w'.cell? ⟨H, 1, none⟩ = some (.int .i64 x1) ∧ w'.cell? ⟨H, 2, none⟩ = some (.int .u64 x2) ∧ w'.cell? ⟨H, 3, none⟩ = some (.int .i64 x3) ∧ w'.cell? ⟨H, 4, none⟩ = some (.int .u64 x4) ∧ w'.cell? ⟨H + 1, 0, none⟩ = some (.int .i64 y0) ∧ w'.cell? ⟨H + 1, 1, none⟩ = some (.int .i64 y1) ∧ w'.cell? ⟨H + 1, 2, none⟩ = some (.int .u64 y2) ∧ w'.cell? ⟨H + 1, 3, none⟩ = some (.int .i64 y3) ∧ w'.cell? ⟨H + 1, 4, none⟩ = some (.int .u64 y4)) mixed ⟨I1.out.cell 0, I1.out.cell 1, I1.out.cell 2, I1.out.cell 3, I1.out.cell 4, J1.out.cell 0, J1.out.cell 1, J1.out.cell 2, J1.out.cell 3, J1.out.cell 4⟩ (fun hHeld => ?_)
  refine pickL (v := ?_) 1 (some 6) rfl rfl (by kernel_rfl) (by kernel_rfl) (by kernel_rfl) (by decide) (by kernel_rfl) (by kernel_rfl) (fun _ _ _ h => h) (by rfl) ?_ (by assumption) ?_
  rotate_left
  · intro w' hSw
    obtain ⟨q0, q1, q2, q3, q4, q5, q6, q7, q8, q9⟩ := hSw
    go_simp
    try with_reducible rfl
  try simp only [Act.put, List.setIfInBounds_toArray, List.set_cons_zero, List.set_cons_succ]
  refine pickL (v := ?_) 2 (some 7) rfl rfl (by kernel_rfl) (by kernel_rfl) (by kernel_rfl) (by decide) (by kernel_rfl) (by kernel_rfl) (fun _ _ _ h => h) (by rfl) ?_ (by assumption) ?_
  rotate_left
  · intro w' hSw
    obtain ⟨q0, q1, q2, q3, q4, q5, q6, q7, q8, q9⟩ := hSw
    go_simp
    try with_reducible rfl
  try simp only [Act.put, List.setIfInBounds_toArray, List.set_cons_zero, List.set_cons_succ]
  refine oneL (i := 0) (by kernel_rfl) rfl (fun K hK => ?_)
  go_simp
  refine (new_any _).mono ?_; rintro e w2 ⟨b, rfl, hb, hL, hbl⟩
  have I2 := hide (I1.out.below hbl)
  have J2 := hide (J1.out.below hbl)
  have B2 := hide (B1.out.trans (hbl.mono B1.out.size))
  have hL := hide hL
  have hS2 : (fun w' => w'.cell? ⟨H, 0, none⟩ = some (.int .i64 x0) ∧ w'.cell? ⟨H, 1, none⟩ = some (.int .i64 x1) ∧ w'.cell? ⟨H, 2, none⟩ = some (.int .u64 x2) ∧ w'.cell? ⟨H, 3, none⟩ = some (.int .i64 x3) ∧ w'.cell? ⟨H, 4, none⟩ = some (.int .u64 x4) ∧ w'.cell? ⟨H + 1, 0, none⟩ = some (.int .i64 y0) ∧ w'.cell? ⟨H + 1, 1, none⟩ = some (.int .i64 y1) ∧ w'.cell? ⟨H + 1, 2, none⟩ = some (.int .u64 y2) ∧ w'.cell? ⟨H + 1, 3, none⟩ = some (.int .i64 y3) ∧ w'.cell? ⟨H + 1, 4, none⟩ = some (.int .u64 y4)) w2 := ⟨I2.out.cell 0, I2.out.cell 1, I2.out.cell 2, I2.out.cell 3, I2.out.cell 4, J2.out.cell 0, J2.out.cell 1, J2.out.cell 2, J2.out.cell 3, J2.out.cell 4⟩
  clear hbl
  refine hK.out _ _ ?_ ?_
  · exact hS2
  clear hK K
  try simp only [Act.put, List.setIfInBounds_toArray, List.set_cons_zero, List.set_cons_succ]
  clear hHeld
  have hHeld := hS2
  refine pickA (v := ?_) 3 (some 8) rfl rfl (by kernel_rfl) (by kernel_rfl) (by kernel_rfl) (by decide) (fun _ _ _ h => h) (by rfl) ?_ (by assumption) ?_
  rotate_left
  · intro w'
    go_simp
    try with_reducible rfl
  try simp only [Act.put, List.setIfInBounds_toArray, List.set_cons_zero, List.set_cons_succ]
  refine oneL (i := 4) (by kernel_rfl) rfl (fun K hK => ?_)
  go_simp
  have I3 := hide (I2.out.below ((Below.refl _ w2).alloc (Nat.le_refl _) (.cells #[.pointer (some ⟨b, 0, none⟩), .int .i64 x0, .int .i64 x1, .int .u64 x2, .int .i64 x3, .int .u64 x4, .int .i64 y0, .int .i64 y1, .int .u64 y2, .int .i64 y3, .int .u64 y4] 128)))
  have J3 := hide (J2.out.below ((Below.refl _ w2).alloc (Nat.le_refl _) (.cells #[.pointer (some ⟨b, 0, none⟩), .int .i64 x0, .int .i64 x1, .int .u64 x2, .int .i64 x3, .int .u64 x4, .int .i64 y0, .int .i64 y1, .int .u64 y2, .int .i64 y3, .int .u64 y4] 128)))
  have R3 := hide (IsB.new w2 #[.pointer (some ⟨b, 0, none⟩), .int .i64 x0, .int .i64 x1, .int .u64 x2, .int .i64 x3, .int .u64 x4, .int .i64 y0, .int .i64 y1, .int .u64 y2, .int .i64 y3, .int .u64 y4] 128)
  have L3 := hide (hL.out.below ((Below.refl _ w2).alloc (Nat.le_refl _) (.cells #[.pointer (some ⟨b, 0, none⟩), .int .i64 x0, .int .i64 x1, .int .u64 x2, .int .i64 x3, .int .u64 x4, .int .i64 y0, .int .i64 y1, .int .u64 y2, .int .i64 y3, .int .u64 y4] 128)))
  have B3 := hide (B2.out.trans (((Below.refl _ w2).alloc (Nat.le_refl _) (.cells #[.pointer (some ⟨b, 0, none⟩), .int .i64 x0, .int .i64 x1, .int .u64 x2, .int .i64 x3, .int .u64 x4, .int .i64 y0, .int .i64 y1, .int .u64 y2, .int .i64 y3, .int .u64 y4] 128)).mono B2.out.size))
  have hS3 : (fun w' => w'.cell? ⟨H, 0, none⟩ = some (.int .i64 x0) ∧ w'.cell? ⟨H, 1, none⟩ = some (.int .i64 x1) ∧ w'.cell? ⟨H, 2, none⟩ = some (.int .u64 x2) ∧ w'.cell? ⟨H, 3, none⟩ = some (.int .i64 x3) ∧ w'.cell? ⟨H, 4, none⟩ = some (.int .u64 x4) ∧ w'.cell? ⟨H + 1, 0, none⟩ = some (.int .i64 y0) ∧ w'.cell? ⟨H + 1, 1, none⟩ = some (.int .i64 y1) ∧ w'.cell? ⟨H + 1, 2, none⟩ = some (.int .u64 y2) ∧ w'.cell? ⟨H + 1, 3, none⟩ = some (.int .i64 y3) ∧ w'.cell? ⟨H + 1, 4, none⟩ = some (.int .u64 y4)) (w2.alloc (.cells #[.pointer (some ⟨b, 0, none⟩), .int .i64 x0, .int .i64 x1, .int .u64 x2, .int .i64 x3, .int .u64 x4, .int .i64 y0, .int .i64 y1, .int .u64 y2, .int .i64 y3, .int .u64 y4] 128)) := ⟨I3.out.cell 0, I3.out.cell 1, I3.out.cell 2, I3.out.cell 3, I3.out.cell 4, J3.out.cell 0, J3.out.cell 1, J3.out.cell 2, J3.out.cell 3, J3.out.cell 4⟩
  refine hK.out _ _ ?_ ?_
  · exact hS3
  clear hK K
  try simp only [Act.put, List.setIfInBounds_toArray, List.set_cons_zero, List.set_cons_succ]
  clear hHeld
  have hHeld := hS3
  refine pickA (v := ?_) 5 (some 4) rfl rfl (by kernel_rfl) (by kernel_rfl) (by kernel_rfl) (by decide) (fun _ _ _ h => h) (by rfl) ?_ (by assumption) ?_
  rotate_left
  · intro w'
    go_simp
    try with_reducible rfl
  try simp only [Act.put, List.setIfInBounds_toArray, List.set_cons_zero, List.set_cons_succ]
  refine doneL (by kernel_rfl) ?_ _
  clear hHeld
  go_wp2
  go_ret
  have hw0 : W0.heap.size ≤ b := hb
  have hw2 := B2.out.size
  have hs := hsz.out
  have hh := hH.out
  first
    | exact ⟨w2.heap.size, b, rfl, by omega, by omega, ⟨R3.out, L3.out⟩, B3.out⟩
    | exact ⟨w2.heap.size, rfl, by omega, b, by omega, ⟨R3.out, L3.out⟩, B3.out⟩

/-- An end's record, at first: who stands to its left, to its right. -/
def fstL (r l b : Int) : Rf := if r = 1 then (0, 0, 0, 0, 0) else (0, 1, 0, l, b)
def fstR (r l b : Int) : Rf := if r = 1 then (1, 3, 0, l, b) else (0, 0, 0, 0, 0)

set_option maxHeartbeats 4000000 in
set_option maxRecDepth 100000 in
theorem first_rec (p m : Nat) (i r n l b : Int) (w : World) (hp : IsB w p #[.int .i64 i, .int .i64 r, .int .u64 n, .int .i64 l, .int .u64 b, .map (some m)] 98) : Calls Tryd.prog 70 #[(.pointer (some ⟨p, 0, none⟩))] w fun e w' => ∃ rb lb, e = .returned (.pointer (some ⟨rb, 0, none⟩)) ∧ w.heap.size ≤ rb ∧ w.heap.size ≤ lb ∧ RecAt w' rb lb (.slice none 0 0) [] (fstL r l b) (fstR r l b) ∧ Below w.heap.size w w' := by
  have h1 := hp.cell 1
  have h3 := hp.cell 3
  have h4 := hp.cell 4
  simp at h1 h3 h4
  by_cases h : r = 1
  · subst h
    go_enter Tryd.func70, Tryd.ntmps70
    go_wp2_with fail
    refine (newRecord_any 0 0 0 0 0 1 3 0 l b _).mono ?_; rintro e w1 ⟨rb, lb, rfl, g1, g2, g3, g4⟩
    have G3 := hide g3
    have G4 := hide g4
    clear g3 g4
    go_wp2
    go_ret
    exact ⟨rb, lb, rfl, g1, g2, G3.out, G4.out⟩
  · have e1 : fstL r l b = (0, 1, 0, l, b) := if_neg h
    have e2 : fstR r l b = (0, 0, 0, 0, 0) := if_neg h
    rw [e1, e2]
    clear e1 e2
    have hb : (r == 1) = false := by simp [h]
    go_enter Tryd.func70, Tryd.ntmps70
    go_wp2_with fail
    refine (newRecord_any 0 1 0 l b 0 0 0 0 0 _).mono ?_; rintro e w1 ⟨rb, lb, rfl, g1, g2, g3, g4⟩
    have G3 := hide g3
    have G4 := hide g4
    clear g3 g4
    go_wp2
    go_ret
    exact ⟨rb, lb, rfl, g1, g2, G3.out, G4.out⟩

end Go.Proofs.YtdogdinkopocaaaDoor
