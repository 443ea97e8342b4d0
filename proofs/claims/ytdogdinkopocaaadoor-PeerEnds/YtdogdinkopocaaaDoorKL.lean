/- Package link: records in memory; the small functions. -/
import Derived.Test.YtdogdinkopocaaaDoorKT
namespace Go.Proofs.YtdogdinkopocaaaDoor
open Go.RowKit Go.Maps

/-- Which pointers are no table: nil, and one to a table that nobody made. -/
def NoLinks (w : World) (p : Value) : Prop := p = .pointer none ∨ ∃ b, p = .pointer (some ⟨b, 0, none⟩) ∧ IsB w b #[.int .i64 0, .int .i64 0, .int .u64 0, .int .i64 0, .int .u64 0, .map none] 98
theorem NoLinks.below {w w' : World} {p : Value} (h : NoLinks w p) (hb : Below w.heap.size w w') : NoLinks w' p := by
  rcases h with h | ⟨b, h, hi⟩
  · exact Or.inl h
  · exact Or.inr ⟨b, h, hi.below hb⟩
theorem NoLinks.alloc {w : World} {p : Value} (h : NoLinks w p) (o : Obj) : NoLinks (w.alloc o) p := h.below ((Below.refl _ _).alloc (Nat.le_refl _) o)

theorem map_none (w : World) : (binOp .neq 96 (.map none) (.map none)).run Tryd.prog w = .ok (.bool false) w := by kernel_rfl
theorem map_some (m : Nat) (w : World) : (binOp .neq 96 (.map (some m)) (.map none)).run Tryd.prog w = .ok (.bool true) w := by kernel_rfl

set_option maxHeartbeats 4000000 in
set_option maxRecDepth 100000 in
theorem lmade_no (p : Value) (w : World) (h : NoLinks w p) : Calls Tryd.prog 56 #[p] w fun e w' => e = .returned (.bool false) ∧ w' = w := by
  rcases h with rfl | ⟨b, rfl, hb⟩
  · go_enter Tryd.func56, Tryd.ntmps56
    go_wp2
    go_ret
    exact ⟨rfl, rfl⟩
  · have h1 := hb.cell 5
    have h2 := map_none
    simp at h1
    go_enter Tryd.func56, Tryd.ntmps56
    go_wp2
    go_ret
    exact ⟨rfl, rfl⟩

set_option maxHeartbeats 4000000 in
set_option maxRecDepth 100000 in
theorem lmade_yes (p m : Nat) (i r n l b : Int) (w : World) (hp : IsB w p #[.int .i64 i, .int .i64 r, .int .u64 n, .int .i64 l, .int .u64 b, .map (some m)] 98) : Calls Tryd.prog 56 #[(.pointer (some ⟨p, 0, none⟩))] w fun e w' => e = .returned (.bool true) ∧ w' = w := by
  have h5 := hp.cell 5
  have h6 := map_some m
  simp at h5
  go_enter Tryd.func56, Tryd.ntmps56
  go_wp2
  go_ret
  exact ⟨rfl, rfl⟩

set_option maxHeartbeats 4000000 in
set_option maxRecDepth 100000 in
theorem isEnd_any (p m : Nat) (i r n l b : Int) (w : World) (hp : IsB w p #[.int .i64 i, .int .i64 r, .int .u64 n, .int .i64 l, .int .u64 b, .map (some m)] 98) : Calls Tryd.prog 57 #[(.pointer (some ⟨p, 0, none⟩))] w fun e w' => e = .returned (.bool (decide (r ≠ 2))) ∧ w' = w := by
  have h1 := hp.cell 1
  simp at h1
  by_cases h : r = 2
  · subst h
    go_enter Tryd.func57, Tryd.ntmps57
    go_wp2
    go_ret
    exact ⟨rfl, rfl⟩
  · rw [decide_eq_true h]
    have hb : (r != 2) = true := by simp [h]
    go_enter Tryd.func57, Tryd.ntmps57
    go_wp2
    go_ret
    exact ⟨rfl, rfl⟩

/-- Is a vector a list of its? -/
def mayA (r l b x y : Int) : Bool := if r = 2 then bgS l b x y else (rt x y && decide (x ≤ l))
set_option maxHeartbeats 4000000 in
set_option maxRecDepth 100000 in
theorem may_any (p m : Nat) (i r n l b : Int) (w : World) (hp : IsB w p #[.int .i64 i, .int .i64 r, .int .u64 n, .int .i64 l, .int .u64 b, .map (some m)] 98) (x y : Int) (hb0 : 0 ≤ b) (hy0 : 0 ≤ y) : Calls Tryd.prog 58 #[(.pointer (some ⟨p, 0, none⟩)), .agg #[.int .i64 x, .int .u64 y]] w fun e w' => e = .returned (.bool (mayA r l b x y)) ∧ Below w.heap.size w w' := by
  have mixed : Tryd.prog.follows .mixedOrders = true := by kernel_rfl
  have J0 := IsB.new w #[.int .i64 x, .int .u64 y] 27
  have bel0 : Below w.heap.size w (w.alloc (.cells #[.int .i64 x, .int .u64 y] 27)) := (Below.refl w.heap.size w).alloc (Nat.le_refl _) _
  have L1 := hide (hp.below bel0)
  have J1 := hide J0
  have B1 := hide bel0
  clear J0 bel0 hp
  by_cases h : r = 2
  · have hE : Hid (mayA r l b x y = bgS l b x y) := if_pos h
    rw [hE.out]
    go_enter Tryd.func58, Tryd.ntmps58
    go_wp2_with fail
    refine (lmade_yes p m i r n l b _ L1.out).mono ?_; intro e w1 hE1; obtain ⟨rfl, hw⟩ := hE1
    rw [hw]
    clear hw
    go_wp2_with fail
    refine (isEnd_any p m i r n l b _ L1.out).mono ?_; intro e w1 hE1; obtain ⟨rfl, hw⟩ := hE1
    rw [hw, decide_eq_false (by omega)]
    clear hw
    generalize w.alloc (.cells #[.int .i64 x, .int .u64 y] 27) = W1 at L1 J1 B1 ⊢
    generalize hH : w.heap.size = H at J1 ⊢
    replace hH := hide hH
    go_wp2
    refine regionL 8 (fun w' => w'.cell? ⟨p, 3, none⟩ = some (.int .i64 l) ∧ w'.cell? ⟨p, 4, none⟩ = some (.int .u64 b) ∧ w'.cell? ⟨H, 0, none⟩ = some (.int .i64 x) ∧ w'.cell? ⟨H, 1, none⟩ = some (.int .u64 y)) mixed ⟨L1.out.cell 3, L1.out.cell 4, J1.out.cell 0, J1.out.cell 1⟩ (fun hHeld => ?_)
    refine pickA (v := ?_) 0 (some 26) rfl rfl (by kernel_rfl) (by kernel_rfl) (by kernel_rfl) (by decide) (fun _ _ _ h => h) (by rfl) ?_ (by assumption) ?_
    rotate_left
    · intro w'
      go_simp
      try with_reducible rfl
    try simp only [Act.put, List.setIfInBounds_toArray, List.set_cons_zero, List.set_cons_succ]
    refine pickA (v := ?_) 1 (some 27) rfl rfl (by kernel_rfl) (by kernel_rfl) (by kernel_rfl) (by decide) (fun _ _ _ h => h) (by rfl) ?_ (by assumption) ?_
    rotate_left
    · intro w'
      go_simp
      try with_reducible rfl
    try simp only [Act.put, List.setIfInBounds_toArray, List.set_cons_zero, List.set_cons_succ]
    refine pickA (v := ?_) 2 (some 28) rfl rfl (by kernel_rfl) (by kernel_rfl) (by kernel_rfl) (by decide) (fun _ _ _ h => h) (by rfl) ?_ (by assumption) ?_
    rotate_left
    · intro w'
      go_simp
      try with_reducible rfl
    try simp only [Act.put, List.setIfInBounds_toArray, List.set_cons_zero, List.set_cons_succ]
    refine pickA (v := ?_) 3 (some 29) rfl rfl (by kernel_rfl) (by kernel_rfl) (by kernel_rfl) (by decide) (fun _ _ _ h => h) (by rfl) ?_ (by assumption) ?_
    rotate_left
    · intro w'
      go_simp
      try with_reducible rfl
    try simp only [Act.put, List.setIfInBounds_toArray, List.set_cons_zero, List.set_cons_succ]
    refine pickL (v := ?_) 4 (some 30) rfl rfl (by kernel_rfl) (by kernel_rfl) (by kernel_rfl) (by decide) (by kernel_rfl) (by kernel_rfl) (fun _ _ _ h => h) (by rfl) ?_ (by assumption) ?_
    rotate_left
    · intro w' hSw
      obtain ⟨q0, q1, q2, q3⟩ := hSw
      go_simp
      try with_reducible rfl
    try simp only [Act.put, List.setIfInBounds_toArray, List.set_cons_zero, List.set_cons_succ]
    refine pickL (v := ?_) 5 (some 31) rfl rfl (by kernel_rfl) (by kernel_rfl) (by kernel_rfl) (by decide) (by kernel_rfl) (by kernel_rfl) (fun _ _ _ h => h) (by rfl) ?_ (by assumption) ?_
    rotate_left
    · intro w' hSw
      obtain ⟨q0, q1, q2, q3⟩ := hSw
      go_simp
      try with_reducible rfl
    try simp only [Act.put, List.setIfInBounds_toArray, List.set_cons_zero, List.set_cons_succ]
    refine oneL (i := 6) (by kernel_rfl) rfl (fun K hK => ?_)
    go_simp
    refine (vBegins_any l b x y hb0 hy0 _).mono ?_; rintro e w3 ⟨rfl, hb3⟩
    have B3 := hide (B1.out.trans ((((Below.refl _ _).drew).trans (hb3.mono (Nat.le_refl _))).mono B1.out.size))
    have hS3 : (fun w' => w'.cell? ⟨p, 3, none⟩ = some (.int .i64 l) ∧ w'.cell? ⟨p, 4, none⟩ = some (.int .u64 b) ∧ w'.cell? ⟨H, 0, none⟩ = some (.int .i64 x) ∧ w'.cell? ⟨H, 1, none⟩ = some (.int .u64 y)) w3 := by
      have hb4 := ((Below.refl W1.heap.size W1).drew).trans (hb3.mono (Nat.le_refl _))
      exact ⟨(L1.out.below hb4).cell 3, (L1.out.below hb4).cell 4, (J1.out.below hb4).cell 0, (J1.out.below hb4).cell 1⟩
    clear hb3
    refine hK.out _ _ ?_ ?_
    · exact hS3
    clear hK K
    try simp only [Act.put, List.setIfInBounds_toArray, List.set_cons_zero, List.set_cons_succ]
    clear hHeld
    have hHeld := hS3
    clear hS3
    refine pickA (v := ?_) 7 (some 4) rfl rfl (by kernel_rfl) (by kernel_rfl) (by kernel_rfl) (by decide) (fun _ _ _ h => h) (by rfl) ?_ (by assumption) ?_
    rotate_left
    · intro w'
      go_simp
      try with_reducible rfl
    try simp only [Act.put, List.setIfInBounds_toArray, List.set_cons_zero, List.set_cons_succ]
    refine doneL (by kernel_rfl) ?_ _
    clear hHeld
    go_wp2
    go_ret
    exact ⟨rfl, B3.out⟩
  · have hE : Hid (mayA r l b x y = (rt x y && decide (x ≤ l))) := if_neg h
    rw [hE.out]
    rcases hrt : rt x y with _ | _
    · have hre : Hid (reS x y = 10) := reS_no hrt
      simp only [Bool.false_and]
      go_enter Tryd.func58, Tryd.ntmps58
      go_wp2_with fail
      refine (lmade_yes p m i r n l b _ L1.out).mono ?_; intro e w1 hE1; obtain ⟨rfl, hw⟩ := hE1
      rw [hw]
      clear hw
      go_wp2_with fail
      refine (isEnd_any p m i r n l b _ L1.out).mono ?_; intro e w1 hE1; obtain ⟨rfl, hw⟩ := hE1
      rw [hw, decide_eq_true (by omega)]
      clear hw
      generalize w.alloc (.cells #[.int .i64 x, .int .u64 y] 27) = W1 at L1 J1 B1 ⊢
      generalize hH : w.heap.size = H at J1 ⊢
      replace hH := hide hH
      go_wp2
      refine regionL 15 (fun w' => w'.cell? ⟨p, 3, none⟩ = some (.int .i64 l) ∧ w'.cell? ⟨p, 4, none⟩ = some (.int .u64 b) ∧ w'.cell? ⟨H, 0, none⟩ = some (.int .i64 x) ∧ w'.cell? ⟨H, 1, none⟩ = some (.int .u64 y)) mixed ⟨L1.out.cell 3, L1.out.cell 4, J1.out.cell 0, J1.out.cell 1⟩ (fun hHeld => ?_)
      refine pickL (v := ?_) 0 (some 12) rfl rfl (by kernel_rfl) (by kernel_rfl) (by kernel_rfl) (by decide) (by kernel_rfl) (by kernel_rfl) (fun _ _ _ h => h) (by rfl) ?_ (by assumption) ?_
      rotate_left
      · intro w' hSw
        obtain ⟨q0, q1, q2, q3⟩ := hSw
        go_simp
        try with_reducible rfl
      try simp only [Act.put, List.setIfInBounds_toArray, List.set_cons_zero, List.set_cons_succ]
      refine oneL (i := 1) (by kernel_rfl) rfl (fun K hK => ?_)
      go_simp
      refine (vright_any x y hy0 _).mono ?_; rintro e w3 ⟨rfl, hb3⟩
      rw [hre.out]
      have B3 := hide (B1.out.trans ((((Below.refl _ _).drew).trans (hb3.mono (Nat.le_refl _))).mono B1.out.size))
      have hS3 : (fun w' => w'.cell? ⟨p, 3, none⟩ = some (.int .i64 l) ∧ w'.cell? ⟨p, 4, none⟩ = some (.int .u64 b) ∧ w'.cell? ⟨H, 0, none⟩ = some (.int .i64 x) ∧ w'.cell? ⟨H, 1, none⟩ = some (.int .u64 y)) w3 := by
        have hb4 := ((Below.refl W1.heap.size W1).drew).trans (hb3.mono (Nat.le_refl _))
        exact ⟨(L1.out.below hb4).cell 3, (L1.out.below hb4).cell 4, (J1.out.below hb4).cell 0, (J1.out.below hb4).cell 1⟩
      clear hb3
      refine hK.out _ _ ?_ ?_
      · exact hS3
      clear hK K
      try simp only [Act.put, List.setIfInBounds_toArray, List.set_cons_zero, List.set_cons_succ]
      clear hHeld
      have hHeld := hS3
      clear hS3
      refine pickA (v := ?_) 2 (some 14) rfl rfl (by kernel_rfl) (by kernel_rfl) (by kernel_rfl) (by decide) (fun _ _ _ h => h) (by rfl) ?_ (by assumption) ?_
      rotate_left
      · intro w'
        go_simp
        try with_reducible rfl
      try simp only [Act.put, List.setIfInBounds_toArray, List.set_cons_zero, List.set_cons_succ]
      refine pickA (v := ?_) 3 (some 15) rfl rfl (by kernel_rfl) (by kernel_rfl) (by kernel_rfl) (by decide) (fun _ _ _ h => h) (by rfl) ?_ (by assumption) ?_
      rotate_left
      · intro w'
        go_simp
        try with_reducible rfl
      try simp only [Act.put, List.setIfInBounds_toArray, List.set_cons_zero, List.set_cons_succ]
      refine pickN 4 (some 16) rfl rfl (by kernel_rfl) (by kernel_rfl) (by kernel_rfl) (by decide) (fun _ _ _ h => h) (by rfl) (by assumption) ?_
      try simp only [Act.put, List.setIfInBounds_toArray, List.set_cons_zero, List.set_cons_succ]
      refine pickN 5 (some 17) rfl rfl (by kernel_rfl) (by kernel_rfl) (by kernel_rfl) (by decide) (fun _ _ _ h => h) (by rfl) (by assumption) ?_
      try simp only [Act.put, List.setIfInBounds_toArray, List.set_cons_zero, List.set_cons_succ]
      refine pickN 6 (some 18) rfl rfl (by kernel_rfl) (by kernel_rfl) (by kernel_rfl) (by decide) (fun _ _ _ h => h) (by rfl) (by assumption) ?_
      try simp only [Act.put, List.setIfInBounds_toArray, List.set_cons_zero, List.set_cons_succ]
      refine pickN 7 (some 19) rfl rfl (by kernel_rfl) (by kernel_rfl) (by kernel_rfl) (by decide) (fun _ _ _ h => h) (by rfl) (by assumption) ?_
      try simp only [Act.put, List.setIfInBounds_toArray, List.set_cons_zero, List.set_cons_succ]
      refine pickN 8 (some 20) rfl rfl (by kernel_rfl) (by kernel_rfl) (by kernel_rfl) (by decide) (fun _ _ _ h => h) (by rfl) (by assumption) ?_
      try simp only [Act.put, List.setIfInBounds_toArray, List.set_cons_zero, List.set_cons_succ]
      refine pickN 9 (some 21) rfl rfl (by kernel_rfl) (by kernel_rfl) (by kernel_rfl) (by decide) (fun _ _ _ h => h) (by rfl) (by assumption) ?_
      try simp only [Act.put, List.setIfInBounds_toArray, List.set_cons_zero, List.set_cons_succ]
      refine pickN 10 (some 22) rfl rfl (by kernel_rfl) (by kernel_rfl) (by kernel_rfl) (by decide) (fun _ _ _ h => h) (by rfl) (by assumption) ?_
      try simp only [Act.put, List.setIfInBounds_toArray, List.set_cons_zero, List.set_cons_succ]
      refine pickN 11 (some 23) rfl rfl (by kernel_rfl) (by kernel_rfl) (by kernel_rfl) (by decide) (fun _ _ _ h => h) (by rfl) (by assumption) ?_
      try simp only [Act.put, List.setIfInBounds_toArray, List.set_cons_zero, List.set_cons_succ]
      refine pickN 12 (some 24) rfl rfl (by kernel_rfl) (by kernel_rfl) (by kernel_rfl) (by decide) (fun _ _ _ h => h) (by rfl) (by assumption) ?_
      try simp only [Act.put, List.setIfInBounds_toArray, List.set_cons_zero, List.set_cons_succ]
      refine pickA (v := ?_) 13 (some 25) rfl rfl (by kernel_rfl) (by kernel_rfl) (by kernel_rfl) (by decide) (fun _ _ _ h => h) (by rfl) ?_ (by assumption) ?_
      rotate_left
      · intro w'
        go_simp
        try with_reducible rfl
      try simp only [Act.put, List.setIfInBounds_toArray, List.set_cons_zero, List.set_cons_succ]
      refine pickA (v := ?_) 14 (some 4) rfl rfl (by kernel_rfl) (by kernel_rfl) (by kernel_rfl) (by decide) (fun _ _ _ h => h) (by rfl) ?_ (by assumption) ?_
      rotate_left
      · intro w'
        go_simp
        try with_reducible rfl
      try simp only [Act.put, List.setIfInBounds_toArray, List.set_cons_zero, List.set_cons_succ]
      refine doneL (by kernel_rfl) ?_ _
      clear hHeld
      go_wp2
      go_ret
      exact ⟨rfl, B3.out⟩
    · have hre : Hid (reS x y = 0) := reS_yes hrt
      simp only [Bool.true_and]
      go_enter Tryd.func58, Tryd.ntmps58
      go_wp2_with fail
      refine (lmade_yes p m i r n l b _ L1.out).mono ?_; intro e w1 hE1; obtain ⟨rfl, hw⟩ := hE1
      rw [hw]
      clear hw
      go_wp2_with fail
      refine (isEnd_any p m i r n l b _ L1.out).mono ?_; intro e w1 hE1; obtain ⟨rfl, hw⟩ := hE1
      rw [hw, decide_eq_true (by omega)]
      clear hw
      generalize w.alloc (.cells #[.int .i64 x, .int .u64 y] 27) = W1 at L1 J1 B1 ⊢
      generalize hH : w.heap.size = H at J1 ⊢
      replace hH := hide hH
      go_wp2
      refine regionL 15 (fun w' => w'.cell? ⟨p, 3, none⟩ = some (.int .i64 l) ∧ w'.cell? ⟨p, 4, none⟩ = some (.int .u64 b) ∧ w'.cell? ⟨H, 0, none⟩ = some (.int .i64 x) ∧ w'.cell? ⟨H, 1, none⟩ = some (.int .u64 y)) mixed ⟨L1.out.cell 3, L1.out.cell 4, J1.out.cell 0, J1.out.cell 1⟩ (fun hHeld => ?_)
      refine pickL (v := ?_) 0 (some 12) rfl rfl (by kernel_rfl) (by kernel_rfl) (by kernel_rfl) (by decide) (by kernel_rfl) (by kernel_rfl) (fun _ _ _ h => h) (by rfl) ?_ (by assumption) ?_
      rotate_left
      · intro w' hSw
        obtain ⟨q0, q1, q2, q3⟩ := hSw
        go_simp
        try with_reducible rfl
      try simp only [Act.put, List.setIfInBounds_toArray, List.set_cons_zero, List.set_cons_succ]
      refine oneL (i := 1) (by kernel_rfl) rfl (fun K hK => ?_)
      go_simp
      refine (vright_any x y hy0 _).mono ?_; rintro e w3 ⟨rfl, hb3⟩
      rw [hre.out]
      have B3 := hide (B1.out.trans ((((Below.refl _ _).drew).trans (hb3.mono (Nat.le_refl _))).mono B1.out.size))
      have hS3 : (fun w' => w'.cell? ⟨p, 3, none⟩ = some (.int .i64 l) ∧ w'.cell? ⟨p, 4, none⟩ = some (.int .u64 b) ∧ w'.cell? ⟨H, 0, none⟩ = some (.int .i64 x) ∧ w'.cell? ⟨H, 1, none⟩ = some (.int .u64 y)) w3 := by
        have hb4 := ((Below.refl W1.heap.size W1).drew).trans (hb3.mono (Nat.le_refl _))
        exact ⟨(L1.out.below hb4).cell 3, (L1.out.below hb4).cell 4, (J1.out.below hb4).cell 0, (J1.out.below hb4).cell 1⟩
      clear hb3
      refine hK.out _ _ ?_ ?_
      · exact hS3
      clear hK K
      try simp only [Act.put, List.setIfInBounds_toArray, List.set_cons_zero, List.set_cons_succ]
      clear hHeld
      have hHeld := hS3
      clear hS3
      refine pickA (v := ?_) 2 (some 14) rfl rfl (by kernel_rfl) (by kernel_rfl) (by kernel_rfl) (by decide) (fun _ _ _ h => h) (by rfl) ?_ (by assumption) ?_
      rotate_left
      · intro w'
        go_simp
        try with_reducible rfl
      try simp only [Act.put, List.setIfInBounds_toArray, List.set_cons_zero, List.set_cons_succ]
      refine pickA (v := ?_) 3 (some 15) rfl rfl (by kernel_rfl) (by kernel_rfl) (by kernel_rfl) (by decide) (fun _ _ _ h => h) (by rfl) ?_ (by assumption) ?_
      rotate_left
      · intro w'
        go_simp
        try with_reducible rfl
      try simp only [Act.put, List.setIfInBounds_toArray, List.set_cons_zero, List.set_cons_succ]
      refine pickA (v := ?_) 4 (some 16) rfl rfl (by kernel_rfl) (by kernel_rfl) (by kernel_rfl) (by decide) (fun _ _ _ h => h) (by rfl) ?_ (by assumption) ?_
      rotate_left
      · intro w'
        go_simp
        try with_reducible rfl
      try simp only [Act.put, List.setIfInBounds_toArray, List.set_cons_zero, List.set_cons_succ]
      refine pickL (v := ?_) 5 (some 17) rfl rfl (by kernel_rfl) (by kernel_rfl) (by kernel_rfl) (by decide) (by kernel_rfl) (by kernel_rfl) (fun _ _ _ h => h) (by rfl) ?_ (by assumption) ?_
      rotate_left
      · intro w' hSw
        obtain ⟨q0, q1, q2, q3⟩ := hSw
        go_simp
        try with_reducible rfl
      try simp only [Act.put, List.setIfInBounds_toArray, List.set_cons_zero, List.set_cons_succ]
      refine pickA (v := ?_) 6 (some 18) rfl rfl (by kernel_rfl) (by kernel_rfl) (by kernel_rfl) (by decide) (fun _ _ _ h => h) (by rfl) ?_ (by assumption) ?_
      rotate_left
      · intro w'
        go_simp
        try with_reducible rfl
      try simp only [Act.put, List.setIfInBounds_toArray, List.set_cons_zero, List.set_cons_succ]
      refine pickA (v := ?_) 7 (some 19) rfl rfl (by kernel_rfl) (by kernel_rfl) (by kernel_rfl) (by decide) (fun _ _ _ h => h) (by rfl) ?_ (by assumption) ?_
      rotate_left
      · intro w'
        go_simp
        try with_reducible rfl
      try simp only [Act.put, List.setIfInBounds_toArray, List.set_cons_zero, List.set_cons_succ]
      refine pickA (v := ?_) 8 (some 20) rfl rfl (by kernel_rfl) (by kernel_rfl) (by kernel_rfl) (by decide) (fun _ _ _ h => h) (by rfl) ?_ (by assumption) ?_
      rotate_left
      · intro w'
        go_simp
        try with_reducible rfl
      try simp only [Act.put, List.setIfInBounds_toArray, List.set_cons_zero, List.set_cons_succ]
      refine pickA (v := ?_) 9 (some 21) rfl rfl (by kernel_rfl) (by kernel_rfl) (by kernel_rfl) (by decide) (fun _ _ _ h => h) (by rfl) ?_ (by assumption) ?_
      rotate_left
      · intro w'
        go_simp
        try with_reducible rfl
      try simp only [Act.put, List.setIfInBounds_toArray, List.set_cons_zero, List.set_cons_succ]
      refine pickA (v := ?_) 10 (some 22) rfl rfl (by kernel_rfl) (by kernel_rfl) (by kernel_rfl) (by decide) (fun _ _ _ h => h) (by rfl) ?_ (by assumption) ?_
      rotate_left
      · intro w'
        go_simp
        try with_reducible rfl
      try simp only [Act.put, List.setIfInBounds_toArray, List.set_cons_zero, List.set_cons_succ]
      refine pickL (v := ?_) 11 (some 23) rfl rfl (by kernel_rfl) (by kernel_rfl) (by kernel_rfl) (by decide) (by kernel_rfl) (by kernel_rfl) (fun _ _ _ h => h) (by rfl) ?_ (by assumption) ?_
      rotate_left
      · intro w' hSw
        obtain ⟨q0, q1, q2, q3⟩ := hSw
        go_simp
        try with_reducible rfl
      try simp only [Act.put, List.setIfInBounds_toArray, List.set_cons_zero, List.set_cons_succ]
      refine pickA (v := ?_) 12 (some 24) rfl rfl (by kernel_rfl) (by kernel_rfl) (by kernel_rfl) (by decide) (fun _ _ _ h => h) (by rfl) ?_ (by assumption) ?_
      rotate_left
      · intro w'
        go_simp
        try with_reducible rfl
      try simp only [Act.put, List.setIfInBounds_toArray, List.set_cons_zero, List.set_cons_succ]
      refine pickA (v := ?_) 13 (some 25) rfl rfl (by kernel_rfl) (by kernel_rfl) (by kernel_rfl) (by decide) (fun _ _ _ h => h) (by rfl) ?_ (by assumption) ?_
      rotate_left
      · intro w'
        go_simp
        try with_reducible rfl
      try simp only [Act.put, List.setIfInBounds_toArray, List.set_cons_zero, List.set_cons_succ]
      refine pickA (v := ?_) 14 (some 4) rfl rfl (by kernel_rfl) (by kernel_rfl) (by kernel_rfl) (by decide) (fun _ _ _ h => h) (by rfl) ?_ (by assumption) ?_
      rotate_left
      · intro w'
        go_simp
        try with_reducible rfl
      try simp only [Act.put, List.setIfInBounds_toArray, List.set_cons_zero, List.set_cons_succ]
      refine doneL (by kernel_rfl) ?_ _
      clear hHeld
      go_wp2
      go_ret
      exact ⟨rfl, B3.out⟩

end Go.Proofs.YtdogdinkopocaaaDoor
