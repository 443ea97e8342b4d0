/- awake: a record is put, changed, and taken out. -/
import Derived.Test.YtledkljffjomdaaDoorJB
namespace Go.Proofs.YtledkljffjomdaaDoor
open Go.RowKit Go.Maps

set_option maxHeartbeats 16000000 in
set_option maxRecDepth 100000 in
theorem awake_any (w : World) (hR : Ranks w) : Calls Tryd.prog 8 #[] w fun e w' => e = .returned (.bool true) ∧ Below w.heap.size w w' := by
  have mixed : Tryd.prog.follows .mixedOrders = true := by kernel_rfl
  have hv : okV (1, 1) := ⟨rfl, rfl⟩
  have hme : okMe (5, 2, 5, 2, 2) := by show (0 : Int) ≤ 2; decide
  have B0 : Below w.heap.size w (((w.alloc (.cells #[.int .i64 1, .int .i64 1] 31)).alloc (.cells #[.int .i64 2, .int .i64 1] 31)).alloc (.cells #[.int .i64 1, .int .u64 1] 24)) := ((((Below.refl w.heap.size w).alloc (Nat.le_refl _) (.cells #[.int .i64 1, .int .i64 1] 31)).alloc (by simp) (.cells #[.int .i64 2, .int .i64 1] 31)).alloc (by simp; omega) (.cells #[.int .i64 1, .int .u64 1] 24))
  have IP0 := (((IsB.new w #[.int .i64 1, .int .i64 1] 31).below ((Below.refl _ _).alloc (Nat.le_refl _) (.cells #[.int .i64 2, .int .i64 1] 31))).below ((Below.refl _ _).alloc (Nat.le_refl _) (.cells #[.int .i64 1, .int .u64 1] 24)))
  have IP := hide IP0
  clear IP0
  have IQ0 := ((IsB.new (w.alloc (.cells #[.int .i64 1, .int .i64 1] 31)) #[.int .i64 2, .int .i64 1] 31).below ((Below.refl _ _).alloc (Nat.le_refl _) (.cells #[.int .i64 1, .int .u64 1] 24)))
  simp only [World.size_alloc] at IQ0
  have IQ := hide IQ0
  clear IQ0
  have IU0 := (IsB.new ((w.alloc (.cells #[.int .i64 1, .int .i64 1] 31)).alloc (.cells #[.int .i64 2, .int .i64 1] 31)) #[.int .i64 1, .int .u64 1] 24)
  simp only [World.size_alloc] at IU0
  have IU := hide IU0
  clear IU0
  have B1 := hide B0
  have HR := hide (hR.below B0)
  clear B0 hR
  go_enter Tryd.func8, Tryd.ntmps8
  go_wp2_with fail
  generalize (((w.alloc (.cells #[.int .i64 1, .int .i64 1] 31)).alloc (.cells #[.int .i64 2, .int .i64 1] 31)).alloc (.cells #[.int .i64 1, .int .u64 1] 24)) = W1 at IP IQ IU B1 HR ⊢
  generalize hH : w.heap.size = H at IP IQ IU ⊢
  replace hH := hide hH
  refine (at_any 5 _).mono ?_; rintro e w2 ⟨rfl, hb2⟩
  have IP := hide (IP.out.below hb2)
  have IQ := hide (IQ.out.below hb2)
  have IU := hide (IU.out.below hb2)
  have HR := hide (HR.out.below hb2)
  have B2 := hide (B1.out.trans (hb2.mono B1.out.size))
  clear hb2 B1
  go_wp2_with fail
  refine (lnew_ok 5 2 5 2 2 _ HR.out (by decide) (by decide)).mono ?_; rintro e w3 ⟨p, m, rfl, hL, hb3⟩
  have hB0 : w.heap.size ≤ w2.heap.size := B2.out.size
  have hGr : 0 < w2.heap.size := lt_of_cell (a := ⟨0, 0, none⟩) HR.out.1
  have IP := hide (IP.out.below hb3)
  have IQ := hide (IQ.out.below hb3)
  have IU := hide (IU.out.below hb3)
  have HR := hide (HR.out.below hb3)
  have B3 := hide (B2.out.trans (hb3.mono B2.out.size))
  have LK3 := hide hL
  have hs3 : w2.heap.size ≤ w3.heap.size := hb3.size
  clear hb3 hL B2
  generalize hbase : w2.heap.size = base at *
  clear hbase
  go_wp2
  have IP := hide (IP.out.below ((Below.refl _ w3).drew))
  have IQ := hide (IQ.out.below ((Below.refl _ w3).drew))
  have IU := hide (IU.out.below ((Below.refl _ w3).drew))
  have HR := hide (HR.out.below ((Below.refl _ w3).drew))
  have LK3 := hide (LK3.out.below ((Below.refl _ w3).drew))
  have hs4 : base ≤ w3.drew.heap.size := hs3
  have B3d := hide B3.out.drew
  refine regionL 7 (fun w' => w'.cell? ⟨H + 1 + 1, 0, none⟩ = some (.int .i64 1) ∧ w'.cell? ⟨H + 1 + 1, 1, none⟩ = some (.int .u64 1) ∧ w'.cell? ⟨H, 0, none⟩ = some (.int .i64 1) ∧ w'.cell? ⟨H, 1, none⟩ = some (.int .i64 1)) mixed ⟨IU.out.cell 0, IU.out.cell 1, IP.out.cell 0, IP.out.cell 1⟩ (fun hHeld => ?_)
  refine pickA (v := ?_) 0 (some 34) rfl rfl (by kernel_rfl) (by kernel_rfl) (by kernel_rfl) (by decide) (fun _ _ _ h => h) (by rfl) ?_ (by assumption) ?_
  rotate_left
  · intro w'
    go_simp
    try with_reducible rfl
  try simp only [Act.put, List.setIfInBounds_toArray, List.set_cons_zero, List.set_cons_succ]
  refine pickL (v := ?_) 1 (some 35) rfl rfl (by kernel_rfl) (by kernel_rfl) (by kernel_rfl) (by decide) (by kernel_rfl) (by kernel_rfl) (fun _ _ _ h => h) (by rfl) ?_ (by assumption) ?_
  rotate_left
  · intro w' hSw
    obtain ⟨q0, q1, q2, q3⟩ := hSw
    go_simp
    try with_reducible rfl
  try simp only [Act.put, List.setIfInBounds_toArray, List.set_cons_zero, List.set_cons_succ]
  refine pickL (v := ?_) 4 (some 38) rfl rfl (by kernel_rfl) (by kernel_rfl) (by kernel_rfl) (by decide) (by kernel_rfl) (by kernel_rfl) (fun _ _ _ h => h) (by rfl) ?_ (by assumption) ?_
  rotate_left
  · intro w' hSw
    obtain ⟨q0, q1, q2, q3⟩ := hSw
    go_simp
    try with_reducible rfl
  try simp only [Act.put, List.setIfInBounds_toArray, List.set_cons_zero, List.set_cons_succ]
  refine oneL (i := 2) (by kernel_rfl) rfl (fun K hK => ?_)
  go_simp
  refine (head_any 2 _).mono ?_; rintro e w4 ⟨rfl, hb4⟩
  have IP := hide (IP.out.below hb4)
  have IQ := hide (IQ.out.below hb4)
  have IU := hide (IU.out.below hb4)
  have HR := hide (HR.out.below hb4)
  have LK3 := hide (LK3.out.below hb4)
  have B4 := hide (B3d.out.trans (hb4.mono B3d.out.size))
  have hs4 : base ≤ w4.heap.size := Nat.le_trans hs4 hb4.size
  clear hb4
  have hS4 : (fun w' => w'.cell? ⟨H + 1 + 1, 0, none⟩ = some (.int .i64 1) ∧ w'.cell? ⟨H + 1 + 1, 1, none⟩ = some (.int .u64 1) ∧ w'.cell? ⟨H, 0, none⟩ = some (.int .i64 1) ∧ w'.cell? ⟨H, 1, none⟩ = some (.int .i64 1)) w4 := ⟨IU.out.cell 0, IU.out.cell 1, IP.out.cell 0, IP.out.cell 1⟩
  refine hK.out _ _ ?_ ?_
  · exact hS4
  clear hK K
  try simp only [Act.put, List.setIfInBounds_toArray, List.set_cons_zero, List.set_cons_succ]
  clear hHeld
  have hHeld := hS4
  clear hS4
  refine oneL (i := 3) (by kernel_rfl) rfl (fun K hK => ?_)
  go_simp
  refine (tail_any 2 _).mono ?_; rintro e w5 ⟨rfl, hb5⟩
  have IP := hide (IP.out.below hb5)
  have IQ := hide (IQ.out.below hb5)
  have IU := hide (IU.out.below hb5)
  have HR := hide (HR.out.below hb5)
  have LK3 := hide (LK3.out.below hb5)
  have B5 := hide (B4.out.trans (hb5.mono B4.out.size))
  have hs4 : base ≤ w5.heap.size := Nat.le_trans hs4 hb5.size
  clear hb5
  have hS5 : (fun w' => w'.cell? ⟨H + 1 + 1, 0, none⟩ = some (.int .i64 1) ∧ w'.cell? ⟨H + 1 + 1, 1, none⟩ = some (.int .u64 1) ∧ w'.cell? ⟨H, 0, none⟩ = some (.int .i64 1) ∧ w'.cell? ⟨H, 1, none⟩ = some (.int .i64 1)) w5 := ⟨IU.out.cell 0, IU.out.cell 1, IP.out.cell 0, IP.out.cell 1⟩
  refine hK.out _ _ ?_ ?_
  · exact hS5
  clear hK K
  try simp only [Act.put, List.setIfInBounds_toArray, List.set_cons_zero, List.set_cons_succ]
  clear hHeld
  have hHeld := hS5
  clear hS5
  refine oneL (i := 5) (by kernel_rfl) rfl (fun K hK => ?_)
  go_simp
  refine (put_ok base p m (5, 2, 5, 2, 2) [] _ LK3.out hs4 1 1 hv hme (by decide) 0 1 0 2 0 1 3 0 2 0 1 1 HR.out rfl (by decide) (by simp) (by decide) (by decide) (by decide)).mono ?_; rintro e w6 ⟨rfl, c, hcn, X6⟩
  have F6 := findC_keep_same (L := []) (v := (1, 1)) (c := c) (Or.inl (rfl : ((5, 2, 5, 2, 2) : Rf).2.1 = 2))
  rw [hcn] at F6
  clear hcn
  generalize keepT (5, 2, 5, 2, 2) (1, 1) c (updL (1, 1) c []) = L6 at X6 F6
  replace X6 := hide X6
  replace F6 := hide F6
  have IP := hide (X6.out.keeps LK3.out IP.out (by decide) (by decide))
  have IQ := hide (X6.out.keeps LK3.out IQ.out (by decide) (by decide))
  have IU := hide (X6.out.keeps LK3.out IU.out (by decide) (by decide))
  have hl6 := X6.out.low LK3.out hs4
  have HR := hide (HR.out.low hGr hl6)
  have B6 := hide (B5.out.trans (hl6.mono (by omega)))
  have hs6 : base ≤ w6.heap.size := Nat.le_trans hs4 hl6.size
  have LK6 := hide X6.out.lk
  clear hl6 X6 LK3
  have hS6 : (fun w' => w'.cell? ⟨H + 1 + 1, 0, none⟩ = some (.int .i64 1) ∧ w'.cell? ⟨H + 1 + 1, 1, none⟩ = some (.int .u64 1) ∧ w'.cell? ⟨H, 0, none⟩ = some (.int .i64 1) ∧ w'.cell? ⟨H, 1, none⟩ = some (.int .i64 1)) w6 := ⟨IU.out.cell 0, IU.out.cell 1, IP.out.cell 0, IP.out.cell 1⟩
  refine hK.out _ _ ?_ ?_
  · exact hS6
  clear hK K
  try simp only [Act.put, List.setIfInBounds_toArray, List.set_cons_zero, List.set_cons_succ]
  clear hHeld
  have hHeld := hS6
  clear hS6
  refine pickA (v := ?_) 6 (some 6) rfl rfl (by kernel_rfl) (by kernel_rfl) (by kernel_rfl) (by decide) (fun _ _ _ h => h) (by rfl) ?_ (by assumption) ?_
  rotate_left
  · intro w'
    go_simp
    try with_reducible rfl
  try simp only [Act.put, List.setIfInBounds_toArray, List.set_cons_zero, List.set_cons_succ]
  refine doneL (by kernel_rfl) ?_ _
  clear hHeld
  go_wp2_with fail
  refine (at_any 9 _).mono ?_; rintro e w7 ⟨rfl, hb7⟩
  have hb8 := hb7.trans (((Below.refl w7.heap.size w7).alloc (Nat.le_refl _) (.cells #[.int .i64 9, .int .i64 2, .int .u64 9, .int .i64 2, .int .u64 0] 29)).mono hb7.size)
  have I9 := hide (IsB.new w7 #[.int .i64 9, .int .i64 2, .int .u64 9, .int .i64 2, .int .u64 0] 29)
  have IP := hide (IP.out.below hb8)
  have IQ := hide (IQ.out.below hb8)
  have IU := hide (IU.out.below hb8)
  have HR := hide (HR.out.below hb8)
  have LK6 := hide (LK6.out.below hb8)
  have B8 := hide (B6.out.trans (hb8.mono B6.out.size))
  have hs8 : base ≤ (w7.alloc (.cells #[.int .i64 9, .int .i64 2, .int .u64 9, .int .i64 2, .int .u64 0] 29)).heap.size := Nat.le_trans hs6 hb8.size
  clear hb7 hb8 B6
  go_wp2
  generalize w7.alloc (.cells #[.int .i64 9, .int .i64 2, .int .u64 9, .int .i64 2, .int .u64 0] 29) = W8 at *
  generalize hN : w7.heap.size = N at *
  clear hN
  have IP := hide (IP.out.below ((Below.refl _ W8).drew))
  have IQ := hide (IQ.out.below ((Below.refl _ W8).drew))
  have IU := hide (IU.out.below ((Below.refl _ W8).drew))
  have I9 := hide (I9.out.below ((Below.refl _ W8).drew))
  have HR := hide (HR.out.below ((Below.refl _ W8).drew))
  have LK6 := hide (LK6.out.below ((Below.refl _ W8).drew))
  have B9 := hide B8.out.drew
  have hs9 : base ≤ W8.drew.heap.size := hs8
  refine regionL 12 (fun w' => w'.cell? ⟨H + 1 + 1, 0, none⟩ = some (.int .i64 1) ∧ w'.cell? ⟨H + 1 + 1, 1, none⟩ = some (.int .u64 1) ∧ w'.cell? ⟨H, 0, none⟩ = some (.int .i64 1) ∧ w'.cell? ⟨H, 1, none⟩ = some (.int .i64 1) ∧ w'.cell? ⟨H + 1, 0, none⟩ = some (.int .i64 2) ∧ w'.cell? ⟨H + 1, 1, none⟩ = some (.int .i64 1) ∧ w'.cell? ⟨N, 0, none⟩ = some (.int .i64 9) ∧ w'.cell? ⟨N, 1, none⟩ = some (.int .i64 2) ∧ w'.cell? ⟨N, 2, none⟩ = some (.int .u64 9) ∧ w'.cell? ⟨N, 3, none⟩ = some (.int .i64 2) ∧ w'.cell? ⟨N, 4, none⟩ = some (.int .u64 0)) mixed ⟨IU.out.cell 0, IU.out.cell 1, IP.out.cell 0, IP.out.cell 1, IQ.out.cell 0, IQ.out.cell 1, I9.out.cell 0, I9.out.cell 1, I9.out.cell 2, I9.out.cell 3, I9.out.cell 4⟩ (fun hHeld => ?_)
  refine pickA (v := ?_) 0 (some 43) rfl rfl (by kernel_rfl) (by kernel_rfl) (by kernel_rfl) (by decide) (fun _ _ _ h => h) (by rfl) ?_ (by assumption) ?_
  rotate_left
  · intro w'
    go_simp
    try with_reducible rfl
  try simp only [Act.put, List.setIfInBounds_toArray, List.set_cons_zero, List.set_cons_succ]
  refine pickL (v := ?_) 1 (some 44) rfl rfl (by kernel_rfl) (by kernel_rfl) (by kernel_rfl) (by decide) (by kernel_rfl) (by kernel_rfl) (fun _ _ _ h => h) (by rfl) ?_ (by assumption) ?_
  rotate_left
  · intro w' hSw
    obtain ⟨q0, q1, q2, q3, q4, q5, q6, q7, q8, q9, qa⟩ := hSw
    go_simp
    try with_reducible rfl
  try simp only [Act.put, List.setIfInBounds_toArray, List.set_cons_zero, List.set_cons_succ]
  refine pickL (v := ?_) 2 (some 45) rfl rfl (by kernel_rfl) (by kernel_rfl) (by kernel_rfl) (by decide) (by kernel_rfl) (by kernel_rfl) (fun _ _ _ h => h) (by rfl) ?_ (by assumption) ?_
  rotate_left
  · intro w' hSw
    obtain ⟨q0, q1, q2, q3, q4, q5, q6, q7, q8, q9, qa⟩ := hSw
    go_simp
    try with_reducible rfl
  try simp only [Act.put, List.setIfInBounds_toArray, List.set_cons_zero, List.set_cons_succ]
  refine pickL (v := ?_) 3 (some 46) rfl rfl (by kernel_rfl) (by kernel_rfl) (by kernel_rfl) (by decide) (by kernel_rfl) (by kernel_rfl) (fun _ _ _ h => h) (by rfl) ?_ (by assumption) ?_
  rotate_left
  · intro w' hSw
    obtain ⟨q0, q1, q2, q3, q4, q5, q6, q7, q8, q9, qa⟩ := hSw
    go_simp
    try with_reducible rfl
  try simp only [Act.put, List.setIfInBounds_toArray, List.set_cons_zero, List.set_cons_succ]
  refine pickA (v := ?_) 5 (some 48) rfl rfl (by kernel_rfl) (by kernel_rfl) (by kernel_rfl) (by decide) (fun _ _ _ h => h) (by rfl) ?_ (by assumption) ?_
  rotate_left
  · intro w'
    go_simp
    try with_reducible rfl
  try simp only [Act.put, List.setIfInBounds_toArray, List.set_cons_zero, List.set_cons_succ]
  refine pickL (v := ?_) 6 (some 49) rfl rfl (by kernel_rfl) (by kernel_rfl) (by kernel_rfl) (by decide) (by kernel_rfl) (by kernel_rfl) (fun _ _ _ h => h) (by rfl) ?_ (by assumption) ?_
  rotate_left
  · intro w' hSw
    obtain ⟨q0, q1, q2, q3, q4, q5, q6, q7, q8, q9, qa⟩ := hSw
    go_simp
    try with_reducible rfl
  try simp only [Act.put, List.setIfInBounds_toArray, List.set_cons_zero, List.set_cons_succ]
  refine pickL (v := ?_) 7 (some 50) rfl rfl (by kernel_rfl) (by kernel_rfl) (by kernel_rfl) (by decide) (by kernel_rfl) (by kernel_rfl) (fun _ _ _ h => h) (by rfl) ?_ (by assumption) ?_
  rotate_left
  · intro w' hSw
    obtain ⟨q0, q1, q2, q3, q4, q5, q6, q7, q8, q9, qa⟩ := hSw
    go_simp
    try with_reducible rfl
  try simp only [Act.put, List.setIfInBounds_toArray, List.set_cons_zero, List.set_cons_succ]
  refine pickL (v := ?_) 8 (some 51) rfl rfl (by kernel_rfl) (by kernel_rfl) (by kernel_rfl) (by decide) (by kernel_rfl) (by kernel_rfl) (fun _ _ _ h => h) (by rfl) ?_ (by assumption) ?_
  rotate_left
  · intro w' hSw
    obtain ⟨q0, q1, q2, q3, q4, q5, q6, q7, q8, q9, qa⟩ := hSw
    go_simp
    try with_reducible rfl
  try simp only [Act.put, List.setIfInBounds_toArray, List.set_cons_zero, List.set_cons_succ]
  refine oneL (i := 4) (by kernel_rfl) rfl (fun K hK => ?_)
  go_simp
  refine (right_held base p m (5, 2, 5, 2, 2) L6 _ LK6.out hs9 1 1 hv hme (by decide) 9 2 9 2 0 2 1 HR.out _ F6.out (by decide)).mono ?_; rintro e w10 ⟨rfl, hb10⟩
  rw [show heE ([(1, 1)], (0, 1, 0, 2, 0), (1, 3, 0, 2, 0)).1 2 1 = 71 from by decide]
  have IP := hide (IP.out.below hb10)
  have IQ := hide (IQ.out.below hb10)
  have IU := hide (IU.out.below hb10)
  have I9 := hide (I9.out.below hb10)
  have HR := hide (HR.out.below hb10)
  have LK6 := hide (LK6.out.below hb10)
  have B10 := hide (B9.out.trans (hb10.mono B9.out.size))
  have hs10 : base ≤ w10.heap.size := Nat.le_trans hs9 hb10.size
  clear hb10
  have hS10 : (fun w' => w'.cell? ⟨H + 1 + 1, 0, none⟩ = some (.int .i64 1) ∧ w'.cell? ⟨H + 1 + 1, 1, none⟩ = some (.int .u64 1) ∧ w'.cell? ⟨H, 0, none⟩ = some (.int .i64 1) ∧ w'.cell? ⟨H, 1, none⟩ = some (.int .i64 1) ∧ w'.cell? ⟨H + 1, 0, none⟩ = some (.int .i64 2) ∧ w'.cell? ⟨H + 1, 1, none⟩ = some (.int .i64 1) ∧ w'.cell? ⟨N, 0, none⟩ = some (.int .i64 9) ∧ w'.cell? ⟨N, 1, none⟩ = some (.int .i64 2) ∧ w'.cell? ⟨N, 2, none⟩ = some (.int .u64 9) ∧ w'.cell? ⟨N, 3, none⟩ = some (.int .i64 2) ∧ w'.cell? ⟨N, 4, none⟩ = some (.int .u64 0)) w10 := ⟨IU.out.cell 0, IU.out.cell 1, IP.out.cell 0, IP.out.cell 1, IQ.out.cell 0, IQ.out.cell 1, I9.out.cell 0, I9.out.cell 1, I9.out.cell 2, I9.out.cell 3, I9.out.cell 4⟩
  refine hK.out _ _ ?_ ?_
  · exact hS10
  clear hK K
  try simp only [Act.put, List.setIfInBounds_toArray, List.set_cons_zero, List.set_cons_succ]
  clear hHeld
  have hHeld := hS10
  clear hS10
  refine oneL (i := 9) (by kernel_rfl) rfl (fun K hK => ?_)
  go_simp
  refine (right_ok base p m (5, 2, 5, 2, 2) L6 _ LK6.out hs10 1 1 hv hme (by decide) 9 2 9 2 0 1 1 HR.out _ F6.out (by decide) (by decide)).mono ?_; rintro e w11 ⟨rfl, c, hcn, X11⟩
  have F11 := findC_keep_same (L := L6) (v := (1, 1)) (c := c) (Or.inl (rfl : ((5, 2, 5, 2, 2) : Rf).2.1 = 2))
  rw [hcn] at F11
  clear hcn
  generalize keepT (5, 2, 5, 2, 2) (1, 1) c (updL (1, 1) c L6) = L11 at X11 F11
  replace X11 := hide X11
  replace F11 := hide F11
  have IP := hide (X11.out.keeps LK6.out IP.out (by decide) (by decide))
  have IQ := hide (X11.out.keeps LK6.out IQ.out (by decide) (by decide))
  have IU := hide (X11.out.keeps LK6.out IU.out (by decide) (by decide))
  have I9 := hide (X11.out.keeps LK6.out I9.out (by decide) (by decide))
  have hl := X11.out.low LK6.out hs10
  have HR := hide (HR.out.low hGr hl)
  have B11 := hide (B10.out.trans (hl.mono (by omega)))
  have hs11 : base ≤ w11.heap.size := Nat.le_trans hs10 hl.size
  have LK11 := hide X11.out.lk
  clear hl X11 LK6
  have hS11 : (fun w' => w'.cell? ⟨H + 1 + 1, 0, none⟩ = some (.int .i64 1) ∧ w'.cell? ⟨H + 1 + 1, 1, none⟩ = some (.int .u64 1) ∧ w'.cell? ⟨H, 0, none⟩ = some (.int .i64 1) ∧ w'.cell? ⟨H, 1, none⟩ = some (.int .i64 1) ∧ w'.cell? ⟨H + 1, 0, none⟩ = some (.int .i64 2) ∧ w'.cell? ⟨H + 1, 1, none⟩ = some (.int .i64 1) ∧ w'.cell? ⟨N, 0, none⟩ = some (.int .i64 9) ∧ w'.cell? ⟨N, 1, none⟩ = some (.int .i64 2) ∧ w'.cell? ⟨N, 2, none⟩ = some (.int .u64 9) ∧ w'.cell? ⟨N, 3, none⟩ = some (.int .i64 2) ∧ w'.cell? ⟨N, 4, none⟩ = some (.int .u64 0)) w11 := ⟨IU.out.cell 0, IU.out.cell 1, IP.out.cell 0, IP.out.cell 1, IQ.out.cell 0, IQ.out.cell 1, I9.out.cell 0, I9.out.cell 1, I9.out.cell 2, I9.out.cell 3, I9.out.cell 4⟩
  refine hK.out _ _ ?_ ?_
  · exact hS11
  clear hK K
  try simp only [Act.put, List.setIfInBounds_toArray, List.set_cons_zero, List.set_cons_succ]
  clear hHeld
  have hHeld := hS11
  clear hS11
  refine pickA (v := ?_) 10 (some 8) rfl rfl (by kernel_rfl) (by kernel_rfl) (by kernel_rfl) (by decide) (fun _ _ _ h => h) (by rfl) ?_ (by assumption) ?_
  rotate_left
  · intro w'
    go_simp
    try with_reducible rfl
  try simp only [Act.put, List.setIfInBounds_toArray, List.set_cons_zero, List.set_cons_succ]
  refine pickA (v := ?_) 11 (some 9) rfl rfl (by kernel_rfl) (by kernel_rfl) (by kernel_rfl) (by decide) (fun _ _ _ h => h) (by rfl) ?_ (by assumption) ?_
  rotate_left
  · intro w'
    go_simp
    try with_reducible rfl
  try simp only [Act.put, List.setIfInBounds_toArray, List.set_cons_zero, List.set_cons_succ]
  refine doneL (by kernel_rfl) ?_ _
  clear hHeld
  have qu0 := IU.out.cell 0
  have qu1 := IU.out.cell 1
  simp at qu0 qu1
  go_wp2_with fail
  refine (get_some base p m (5, 2, 5, 2, 2) L11 _ LK11.out hs11 1 1 hv hme (by decide) _ F11.out).mono ?_; rintro e w12 ⟨av, rfl, hst, -, hb12⟩
  obtain ⟨qv, rfl, hqv⟩ := hst
  obtain ⟨qa, qc, rfl⟩ : ∃ qa qc, qv = .slice qa 0 qc := by obtain ⟨a, c, e, -, -⟩ := hqv.shape; exact ⟨a, c, e⟩
  clear hqv
  simp only [stA, hd, List.headD_cons, List.length_cons, List.length_nil]
  have hIQ12 := IQ.out.below hb12
  have hIU12 := IU.out.below hb12
  have hIP12 := IP.out.below hb12
  have u0 : w12.cell? ⟨H + 1 + 1, 0, none⟩ = some (.int .i64 1) := hIU12.cell 0
  have u1 : w12.cell? ⟨H + 1 + 1, 1, none⟩ = some (.int .u64 1) := hIU12.cell 1
  have b0 : w12.cell? ⟨H + 1, 0, none⟩ = some (.int .i64 2) := hIQ12.cell 0
  have b1 : w12.cell? ⟨H + 1, 1, none⟩ = some (.int .i64 1) := hIQ12.cell 1
  have hb13 := hb12.trans (((Below.refl w12.heap.size w12).alloc (Nat.le_refl _) (.cells #[.int .i64 1, .int .u64 1, .int .i64 0, .int .i64 1, .int .u64 0, .int .i64 2, .int .u64 0, .int .i64 9, .int .i64 2, .int .u64 9, .int .i64 2, .int .u64 0, .bool true, .int .i64 1, .int .i64 1, .slice qa 0 qc] 34)).mono hb12.size)
  have I10 := hide (IsB.new w12 #[.int .i64 1, .int .u64 1, .int .i64 0, .int .i64 1, .int .u64 0, .int .i64 2, .int .u64 0, .int .i64 9, .int .i64 2, .int .u64 9, .int .i64 2, .int .u64 0, .bool true, .int .i64 1, .int .i64 1, .slice qa 0 qc] 34)
  have IP := hide (IP.out.below hb13)
  have IQ := hide (IQ.out.below hb13)
  have IU := hide (IU.out.below hb13)
  have I9 := hide (I9.out.below hb13)
  have HR := hide (HR.out.below hb13)
  have LK11 := hide (LK11.out.below hb13)
  have B13 := hide (B11.out.trans (hb13.mono B11.out.size))
  have hs13 : base ≤ (w12.alloc (.cells #[.int .i64 1, .int .u64 1, .int .i64 0, .int .i64 1, .int .u64 0, .int .i64 2, .int .u64 0, .int .i64 9, .int .i64 2, .int .u64 9, .int .i64 2, .int .u64 0, .bool true, .int .i64 1, .int .i64 1, .slice qa 0 qc] 34)).heap.size := Nat.le_trans hs11 hb13.size
  clear hb12 hb13 qu0 qu1
  have hlt12 : H + 1 < w12.heap.size ∧ H + 1 + 1 < w12.heap.size ∧ H < w12.heap.size := ⟨(hIQ12).lt, (hIU12).lt, (hIP12).lt⟩
  go_wp2_with fail
  clear u0 u1 b0 b1 hIQ12 hIU12 hIP12 hlt12
  generalize w12.alloc (.cells #[.int .i64 1, .int .u64 1, .int .i64 0, .int .i64 1, .int .u64 0, .int .i64 2, .int .u64 0, .int .i64 9, .int .i64 2, .int .u64 9, .int .i64 2, .int .u64 0, .bool true, .int .i64 1, .int .i64 1, .slice qa 0 qc] 34) = W13 at *
  generalize hT : w12.heap.size = T at *
  clear hT
  refine (lock_ok base p m (5, 2, 5, 2, 2) L11 _ LK11.out hs13 1 1 hv hme (by decide) 2 1 _ F11.out false [(1, 1), (2, 1)] (by decide)).mono ?_; rintro e w14 ⟨rfl, c, hcn, X14⟩
  have F14 := findC_keep_same (L := L11) (v := (1, 1)) (c := c) (Or.inl (rfl : ((5, 2, 5, 2, 2) : Rf).2.1 = 2))
  rw [hcn] at F14
  clear hcn
  generalize keepT (5, 2, 5, 2, 2) (1, 1) c (updL (1, 1) c L11) = L14 at X14 F14
  replace X14 := hide X14
  replace F14 := hide F14
  have IP := hide (X14.out.keeps LK11.out IP.out (by decide) (by decide))
  have IQ := hide (X14.out.keeps LK11.out IQ.out (by decide) (by decide))
  have IU := hide (X14.out.keeps LK11.out IU.out (by decide) (by decide))
  have I9 := hide (X14.out.keeps LK11.out I9.out (by decide) (by decide))
  have I10 := hide (X14.out.keeps LK11.out I10.out (by decide) (by decide))
  have hl := X14.out.low LK11.out hs13
  have HR := hide (HR.out.low hGr hl)
  have B14 := hide (B13.out.trans (hl.mono (by omega)))
  have hs14 : base ≤ w14.heap.size := Nat.le_trans hs13 hl.size
  have LK14 := hide X14.out.lk
  clear hl X14 LK11
  have qu0 := IU.out.cell 0
  have qu1 := IU.out.cell 1
  have qb0 := IP.out.cell 0
  have qb1 := IP.out.cell 1
  have qlu := IU.out.lt
  have qlb := IP.out.lt
  simp at qu0 qu1 qb0 qb1
  go_wp2_with fail
  refine (out_ok base p m (5, 2, 5, 2, 2) L14 _ LK14.out hs14 1 1 hv hme (by decide) 1 1 _ F14.out rfl (by decide)).mono ?_; rintro e w15 ⟨⟨qv, rfl, hqv⟩, X15⟩
  have hqv : Rw w15 31 2 qv 1 (ows [(2, 1)]) := hqv
  obtain ⟨g, cap, rfl, hcap, -, -⟩ := hqv.form (by decide)
  have HQ := hide hqv
  replace X15 := hide X15
  clear hqv qu0 qu1 qb0 qb1 qlu qlb
  have IP := hide (X15.out.keeps LK14.out IP.out (by decide) (by decide))
  have IQ := hide (X15.out.keeps LK14.out IQ.out (by decide) (by decide))
  have IU := hide (X15.out.keeps LK14.out IU.out (by decide) (by decide))
  have I9 := hide (X15.out.keeps LK14.out I9.out (by decide) (by decide))
  have I10 := hide (X15.out.keeps LK14.out I10.out (by decide) (by decide))
  have hl := X15.out.low LK14.out hs14
  have HR := hide (HR.out.low hGr hl)
  have B15 := hide (B14.out.trans (hl.mono (by omega)))
  have hs15 : base ≤ w15.heap.size := Nat.le_trans hs14 hl.size
  have LK15 := hide X15.out.lk
  clear hl X15 LK14
  have qu0 := IU.out.cell 0
  have qu1 := IU.out.cell 1
  simp at qu0 qu1
  go_wp2_with fail
  refine (get_none base p m (5, 2, 5, 2, 2) (dropL (1, 1) L14) _ LK15.out 1 1 hv hme (by decide) (findC_drop_peer rfl)).mono ?_; rintro e w16 ⟨rfl, hb16⟩
  have hb17 := hb16.trans ((((Below.refl w16.heap.size w16).alloc (Nat.le_refl _) (.cells #[.int .i64 0, .int .u64 0, .int .i64 0, .int .i64 0, .int .u64 0, .int .i64 0, .int .u64 0, .int .i64 0, .int .i64 0, .int .u64 0, .int .i64 0, .int .u64 0, .bool false, .int .i64 0, .int .i64 0, .slice none 0 0] 34)).drew).mono hb16.size)
  have IP := hide (IP.out.below hb17)
  have IQ := hide (IQ.out.below hb17)
  have IU := hide (IU.out.below hb17)
  have I9 := hide (I9.out.below hb17)
  have I10 := hide (I10.out.below hb17)
  have HQ := hide (HQ.out.below hb17)
  have B17 := hide (B15.out.trans (hb17.mono B15.out.size))
  clear hb16 hb17 qu0 qu1 LK15 HR
  go_wp2
  generalize w16.alloc (.cells #[.int .i64 0, .int .u64 0, .int .i64 0, .int .i64 0, .int .u64 0, .int .i64 0, .int .u64 0, .int .i64 0, .int .i64 0, .int .u64 0, .int .i64 0, .int .u64 0, .bool false, .int .i64 0, .int .i64 0, .slice none 0 0] 34) = W17 at *
  refine regionL 48 (fun w' => w'.cell? ⟨T, 7, none⟩ = some (.int .i64 9) ∧ w'.cell? ⟨T, 8, none⟩ = some (.int .i64 2) ∧ w'.cell? ⟨T, 9, none⟩ = some (.int .u64 9) ∧ w'.cell? ⟨T, 10, none⟩ = some (.int .i64 2) ∧ w'.cell? ⟨T, 11, none⟩ = some (.int .u64 0) ∧ w'.cell? ⟨H + 1, 0, none⟩ = some (.int .i64 2) ∧ w'.cell? ⟨H + 1, 1, none⟩ = some (.int .i64 1) ∧ w'.cell? ⟨N, 0, none⟩ = some (.int .i64 9) ∧ w'.cell? ⟨N, 1, none⟩ = some (.int .i64 2) ∧ w'.cell? ⟨N, 2, none⟩ = some (.int .u64 9) ∧ w'.cell? ⟨N, 3, none⟩ = some (.int .i64 2) ∧ w'.cell? ⟨N, 4, none⟩ = some (.int .u64 0) ∧ w'.cell? ⟨g, 0, none⟩ = some (.int .i64 2) ∧ w'.cell? ⟨g, 1, none⟩ = some (.int .i64 1)) mixed ⟨I10.out.cell 7, I10.out.cell 8, I10.out.cell 9, I10.out.cell 10, I10.out.cell 11, IQ.out.cell 0, IQ.out.cell 1, I9.out.cell 0, I9.out.cell 1, I9.out.cell 2, I9.out.cell 3, I9.out.cell 4, HQ.out.cellAt 0 (by decide), HQ.out.cellAt 1 (by decide)⟩ (fun hHeld => ?_)
  refine pickA (v := ?_) 0 (some 79) rfl rfl (by kernel_rfl) (by kernel_rfl) (by kernel_rfl) (by decide) (fun _ _ _ h => h) (by rfl) ?_ (by assumption) ?_
  rotate_left
  · intro w'
    go_simp
    try with_reducible rfl
  try simp only [Act.put, List.setIfInBounds_toArray, List.set_cons_zero, List.set_cons_succ]
  refine pickA (v := ?_) 1 (some 80) rfl rfl (by kernel_rfl) (by kernel_rfl) (by kernel_rfl) (by decide) (fun _ _ _ h => h) (by rfl) ?_ (by assumption) ?_
  rotate_left
  · intro w'
    go_simp
    try with_reducible rfl
  try simp only [Act.put, List.setIfInBounds_toArray, List.set_cons_zero, List.set_cons_succ]
  refine pickA (v := ?_) 2 (some 81) rfl rfl (by kernel_rfl) (by kernel_rfl) (by kernel_rfl) (by decide) (fun _ _ _ h => h) (by rfl) ?_ (by assumption) ?_
  rotate_left
  · intro w'
    go_simp
    try with_reducible rfl
  try simp only [Act.put, List.setIfInBounds_toArray, List.set_cons_zero, List.set_cons_succ]
  refine pickA (v := ?_) 3 (some 82) rfl rfl (by kernel_rfl) (by kernel_rfl) (by kernel_rfl) (by decide) (fun _ _ _ h => h) (by rfl) ?_ (by assumption) ?_
  rotate_left
  · intro w'
    go_simp
    try with_reducible rfl
  try simp only [Act.put, List.setIfInBounds_toArray, List.set_cons_zero, List.set_cons_succ]
  refine pickA (v := ?_) 4 (some 83) rfl rfl (by kernel_rfl) (by kernel_rfl) (by kernel_rfl) (by decide) (fun _ _ _ h => h) (by rfl) ?_ (by assumption) ?_
  rotate_left
  · intro w'
    go_simp
    try with_reducible rfl
  try simp only [Act.put, List.setIfInBounds_toArray, List.set_cons_zero, List.set_cons_succ]
  refine pickA (v := ?_) 5 (some 84) rfl rfl (by kernel_rfl) (by kernel_rfl) (by kernel_rfl) (by decide) (fun _ _ _ h => h) (by rfl) ?_ (by assumption) ?_
  rotate_left
  · intro w'
    go_simp
    try with_reducible rfl
  try simp only [Act.put, List.setIfInBounds_toArray, List.set_cons_zero, List.set_cons_succ]
  refine pickA (v := ?_) 6 (some 85) rfl rfl (by kernel_rfl) (by kernel_rfl) (by kernel_rfl) (by decide) (fun _ _ _ h => h) (by rfl) ?_ (by assumption) ?_
  rotate_left
  · intro w'
    go_simp
    try with_reducible rfl
  try simp only [Act.put, List.setIfInBounds_toArray, List.set_cons_zero, List.set_cons_succ]
  refine pickA (v := ?_) 7 (some 86) rfl rfl (by kernel_rfl) (by kernel_rfl) (by kernel_rfl) (by decide) (fun _ _ _ h => h) (by rfl) ?_ (by assumption) ?_
  rotate_left
  · intro w'
    go_simp
    try with_reducible rfl
  try simp only [Act.put, List.setIfInBounds_toArray, List.set_cons_zero, List.set_cons_succ]
  refine pickA (v := ?_) 8 (some 87) rfl rfl (by kernel_rfl) (by kernel_rfl) (by kernel_rfl) (by decide) (fun _ _ _ h => h) (by rfl) ?_ (by assumption) ?_
  rotate_left
  · intro w'
    go_simp
    try with_reducible rfl
  try simp only [Act.put, List.setIfInBounds_toArray, List.set_cons_zero, List.set_cons_succ]
  refine pickA (v := ?_) 9 (some 88) rfl rfl (by kernel_rfl) (by kernel_rfl) (by kernel_rfl) (by decide) (fun _ _ _ h => h) (by rfl) ?_ (by assumption) ?_
  rotate_left
  · intro w'
    go_simp
    try with_reducible rfl
  try simp only [Act.put, List.setIfInBounds_toArray, List.set_cons_zero, List.set_cons_succ]
  refine pickA (v := ?_) 10 (some 89) rfl rfl (by kernel_rfl) (by kernel_rfl) (by kernel_rfl) (by decide) (fun _ _ _ h => h) (by rfl) ?_ (by assumption) ?_
  rotate_left
  · intro w'
    go_simp
    try with_reducible rfl
  try simp only [Act.put, List.setIfInBounds_toArray, List.set_cons_zero, List.set_cons_succ]
  refine pickA (v := ?_) 11 (some 90) rfl rfl (by kernel_rfl) (by kernel_rfl) (by kernel_rfl) (by decide) (fun _ _ _ h => h) (by rfl) ?_ (by assumption) ?_
  rotate_left
  · intro w'
    go_simp
    try with_reducible rfl
  try simp only [Act.put, List.setIfInBounds_toArray, List.set_cons_zero, List.set_cons_succ]
  refine pickA (v := ?_) 12 (some 91) rfl rfl (by kernel_rfl) (by kernel_rfl) (by kernel_rfl) (by decide) (fun _ _ _ h => h) (by rfl) ?_ (by assumption) ?_
  rotate_left
  · intro w'
    go_simp
    try with_reducible rfl
  try simp only [Act.put, List.setIfInBounds_toArray, List.set_cons_zero, List.set_cons_succ]
  refine pickA (v := ?_) 13 (some 92) rfl rfl (by kernel_rfl) (by kernel_rfl) (by kernel_rfl) (by decide) (fun _ _ _ h => h) (by rfl) ?_ (by assumption) ?_
  rotate_left
  · intro w'
    go_simp
    try with_reducible rfl
  try simp only [Act.put, List.setIfInBounds_toArray, List.set_cons_zero, List.set_cons_succ]
  refine pickA (v := ?_) 14 (some 93) rfl rfl (by kernel_rfl) (by kernel_rfl) (by kernel_rfl) (by decide) (fun _ _ _ h => h) (by rfl) ?_ (by assumption) ?_
  rotate_left
  · intro w'
    go_simp
    try with_reducible rfl
  try simp only [Act.put, List.setIfInBounds_toArray, List.set_cons_zero, List.set_cons_succ]
  refine pickL (v := ?_) 15 (some 94) rfl rfl (by kernel_rfl) (by kernel_rfl) (by kernel_rfl) (by decide) (by kernel_rfl) (by kernel_rfl) (fun _ _ _ h => h) (by rfl) ?_ (by assumption) ?_
  rotate_left
  · intro w' hSw
    obtain ⟨q0, q1, q2, q3, q4, q5, q6, q7, q8, q9, qa, qb, qc, qd⟩ := hSw
    go_simp
    try with_reducible rfl
  try simp only [Act.put, List.setIfInBounds_toArray, List.set_cons_zero, List.set_cons_succ]
  refine pickL (v := ?_) 16 (some 95) rfl rfl (by kernel_rfl) (by kernel_rfl) (by kernel_rfl) (by decide) (by kernel_rfl) (by kernel_rfl) (fun _ _ _ h => h) (by rfl) ?_ (by assumption) ?_
  rotate_left
  · intro w' hSw
    obtain ⟨q0, q1, q2, q3, q4, q5, q6, q7, q8, q9, qa, qb, qc, qd⟩ := hSw
    go_simp
    try with_reducible rfl
  try simp only [Act.put, List.setIfInBounds_toArray, List.set_cons_zero, List.set_cons_succ]
  refine pickA (v := ?_) 17 (some 96) rfl rfl (by kernel_rfl) (by kernel_rfl) (by kernel_rfl) (by decide) (fun _ _ _ h => h) (by rfl) ?_ (by assumption) ?_
  rotate_left
  · intro w'
    go_simp
    try with_reducible rfl
  try simp only [Act.put, List.setIfInBounds_toArray, List.set_cons_zero, List.set_cons_succ]
  refine pickA (v := ?_) 18 (some 97) rfl rfl (by kernel_rfl) (by kernel_rfl) (by kernel_rfl) (by decide) (fun _ _ _ h => h) (by rfl) ?_ (by assumption) ?_
  rotate_left
  · intro w'
    go_simp
    try with_reducible rfl
  try simp only [Act.put, List.setIfInBounds_toArray, List.set_cons_zero, List.set_cons_succ]
  refine pickA (v := ?_) 19 (some 98) rfl rfl (by kernel_rfl) (by kernel_rfl) (by kernel_rfl) (by decide) (fun _ _ _ h => h) (by rfl) ?_ (by assumption) ?_
  rotate_left
  · intro w'
    go_simp
    try with_reducible rfl
  try simp only [Act.put, List.setIfInBounds_toArray, List.set_cons_zero, List.set_cons_succ]
  refine pickA (v := ?_) 20 (some 99) rfl rfl (by kernel_rfl) (by kernel_rfl) (by kernel_rfl) (by decide) (fun _ _ _ h => h) (by rfl) ?_ (by assumption) ?_
  rotate_left
  · intro w'
    go_simp
    try with_reducible rfl
  try simp only [Act.put, List.setIfInBounds_toArray, List.set_cons_zero, List.set_cons_succ]
  refine pickA (v := ?_) 21 (some 100) rfl rfl (by kernel_rfl) (by kernel_rfl) (by kernel_rfl) (by decide) (fun _ _ _ h => h) (by rfl) ?_ (by assumption) ?_
  rotate_left
  · intro w'
    go_simp
    try with_reducible rfl
  try simp only [Act.put, List.setIfInBounds_toArray, List.set_cons_zero, List.set_cons_succ]
  refine pickA (v := ?_) 22 (some 101) rfl rfl (by kernel_rfl) (by kernel_rfl) (by kernel_rfl) (by decide) (fun _ _ _ h => h) (by rfl) ?_ (by assumption) ?_
  rotate_left
  · intro w'
    go_simp
    try with_reducible rfl
  try simp only [Act.put, List.setIfInBounds_toArray, List.set_cons_zero, List.set_cons_succ]
  refine pickA (v := ?_) 23 (some 102) rfl rfl (by kernel_rfl) (by kernel_rfl) (by kernel_rfl) (by decide) (fun _ _ _ h => h) (by rfl) ?_ (by assumption) ?_
  rotate_left
  · intro w'
    go_simp
    try with_reducible rfl
  try simp only [Act.put, List.setIfInBounds_toArray, List.set_cons_zero, List.set_cons_succ]
  refine pickA (v := ?_) 24 (some 103) rfl rfl (by kernel_rfl) (by kernel_rfl) (by kernel_rfl) (by decide) (fun _ _ _ h => h) (by rfl) ?_ (by assumption) ?_
  rotate_left
  · intro w'
    go_simp
    try with_reducible rfl
  try simp only [Act.put, List.setIfInBounds_toArray, List.set_cons_zero, List.set_cons_succ]
  refine pickA (v := ?_) 25 (some 104) rfl rfl (by kernel_rfl) (by kernel_rfl) (by kernel_rfl) (by decide) (fun _ _ _ h => h) (by rfl) ?_ (by assumption) ?_
  rotate_left
  · intro w'
    go_simp
    try with_reducible rfl
  try simp only [Act.put, List.setIfInBounds_toArray, List.set_cons_zero, List.set_cons_succ]
  refine pickA (v := ?_) 26 (some 105) rfl rfl (by kernel_rfl) (by kernel_rfl) (by kernel_rfl) (by decide) (fun _ _ _ h => h) (by rfl) ?_ (by assumption) ?_
  rotate_left
  · intro w'
    go_simp
    try with_reducible rfl
  try simp only [Act.put, List.setIfInBounds_toArray, List.set_cons_zero, List.set_cons_succ]
  refine pickA (v := ?_) 27 (some 106) rfl rfl (by kernel_rfl) (by kernel_rfl) (by kernel_rfl) (by decide) (fun _ _ _ h => h) (by rfl) ?_ (by assumption) ?_
  rotate_left
  · intro w'
    go_simp
    try with_reducible rfl
  try simp only [Act.put, List.setIfInBounds_toArray, List.set_cons_zero, List.set_cons_succ]
  refine pickA (v := ?_) 28 (some 107) rfl rfl (by kernel_rfl) (by kernel_rfl) (by kernel_rfl) (by decide) (fun _ _ _ h => h) (by rfl) ?_ (by assumption) ?_
  rotate_left
  · intro w'
    go_simp
    try with_reducible rfl
  try simp only [Act.put, List.setIfInBounds_toArray, List.set_cons_zero, List.set_cons_succ]
  refine pickA (v := ?_) 29 (some 108) rfl rfl (by kernel_rfl) (by kernel_rfl) (by kernel_rfl) (by decide) (fun _ _ _ h => h) (by rfl) ?_ (by assumption) ?_
  rotate_left
  · intro w'
    go_simp
    try with_reducible rfl
  try simp only [Act.put, List.setIfInBounds_toArray, List.set_cons_zero, List.set_cons_succ]
  refine pickA (v := ?_) 30 (some 109) rfl rfl (by kernel_rfl) (by kernel_rfl) (by kernel_rfl) (by decide) (fun _ _ _ h => h) (by rfl) ?_ (by assumption) ?_
  rotate_left
  · intro w'
    go_simp
    try with_reducible rfl
  try simp only [Act.put, List.setIfInBounds_toArray, List.set_cons_zero, List.set_cons_succ]
  refine pickA (v := ?_) 31 (some 110) rfl rfl (by kernel_rfl) (by kernel_rfl) (by kernel_rfl) (by decide) (fun _ _ _ h => h) (by rfl) ?_ (by assumption) ?_
  rotate_left
  · intro w'
    go_simp
    try with_reducible rfl
  try simp only [Act.put, List.setIfInBounds_toArray, List.set_cons_zero, List.set_cons_succ]
  refine pickA (v := ?_) 32 (some 111) rfl rfl (by kernel_rfl) (by kernel_rfl) (by kernel_rfl) (by decide) (fun _ _ _ h => h) (by rfl) ?_ (by assumption) ?_
  rotate_left
  · intro w'
    go_simp
    try with_reducible rfl
  try simp only [Act.put, List.setIfInBounds_toArray, List.set_cons_zero, List.set_cons_succ]
  refine pickA (v := ?_) 33 (some 112) rfl rfl (by kernel_rfl) (by kernel_rfl) (by kernel_rfl) (by decide) (fun _ _ _ h => h) (by rfl) ?_ (by assumption) ?_
  rotate_left
  · intro w'
    go_simp
    try with_reducible rfl
  try simp only [Act.put, List.setIfInBounds_toArray, List.set_cons_zero, List.set_cons_succ]
  refine pickA (v := ?_) 34 (some 113) rfl rfl (by kernel_rfl) (by kernel_rfl) (by kernel_rfl) (by decide) (fun _ _ _ h => h) (by rfl) ?_ (by assumption) ?_
  rotate_left
  · intro w'
    go_simp
    try with_reducible rfl
  try simp only [Act.put, List.setIfInBounds_toArray, List.set_cons_zero, List.set_cons_succ]
  refine pickL (v := ?_) 35 (some 114) rfl rfl (by kernel_rfl) (by kernel_rfl) (by kernel_rfl) (by decide) (by kernel_rfl) (by kernel_rfl) (fun _ _ _ h => h) (by rfl) ?_ (by assumption) ?_
  rotate_left
  · intro w' hSw
    obtain ⟨q0, q1, q2, q3, q4, q5, q6, q7, q8, q9, qa, qb, qc, qd⟩ := hSw
    go_simp
    try with_reducible rfl
  try simp only [Act.put, List.setIfInBounds_toArray, List.set_cons_zero, List.set_cons_succ]
  refine pickL (v := ?_) 36 (some 115) rfl rfl (by kernel_rfl) (by kernel_rfl) (by kernel_rfl) (by decide) (by kernel_rfl) (by kernel_rfl) (fun _ _ _ h => h) (by rfl) ?_ (by assumption) ?_
  rotate_left
  · intro w' hSw
    obtain ⟨q0, q1, q2, q3, q4, q5, q6, q7, q8, q9, qa, qb, qc, qd⟩ := hSw
    go_simp
    try with_reducible rfl
  try simp only [Act.put, List.setIfInBounds_toArray, List.set_cons_zero, List.set_cons_succ]
  refine pickA (v := ?_) 37 (some 116) rfl rfl (by kernel_rfl) (by kernel_rfl) (by kernel_rfl) (by decide) (fun _ _ _ h => h) (by rfl) ?_ (by assumption) ?_
  rotate_left
  · intro w'
    go_simp
    try with_reducible rfl
  try simp only [Act.put, List.setIfInBounds_toArray, List.set_cons_zero, List.set_cons_succ]
  refine pickA (v := ?_) 38 (some 117) rfl rfl (by kernel_rfl) (by kernel_rfl) (by kernel_rfl) (by decide) (fun _ _ _ h => h) (by rfl) ?_ (by assumption) ?_
  rotate_left
  · intro w'
    go_simp
    try with_reducible rfl
  try simp only [Act.put, List.setIfInBounds_toArray, List.set_cons_zero, List.set_cons_succ]
  refine pickA (v := ?_) 39 (some 118) rfl rfl (by kernel_rfl) (by kernel_rfl) (by kernel_rfl) (by decide) (fun _ _ _ h => h) (by rfl) ?_ (by assumption) ?_
  rotate_left
  · intro w'
    go_simp
    try with_reducible rfl
  try simp only [Act.put, List.setIfInBounds_toArray, List.set_cons_zero, List.set_cons_succ]
  refine pickA (v := ?_) 40 (some 119) rfl rfl (by kernel_rfl) (by kernel_rfl) (by kernel_rfl) (by decide) (fun _ _ _ h => h) (by rfl) ?_ (by assumption) ?_
  rotate_left
  · intro w'
    go_simp
    try with_reducible rfl
  try simp only [Act.put, List.setIfInBounds_toArray, List.set_cons_zero, List.set_cons_succ]
  refine pickA (v := ?_) 41 (some 120) rfl rfl (by kernel_rfl) (by kernel_rfl) (by kernel_rfl) (by decide) (fun _ _ _ h => h) (by rfl) ?_ (by assumption) ?_
  rotate_left
  · intro w'
    go_simp
    try with_reducible rfl
  try simp only [Act.put, List.setIfInBounds_toArray, List.set_cons_zero, List.set_cons_succ]
  refine pickA (v := ?_) 42 (some 121) rfl rfl (by kernel_rfl) (by kernel_rfl) (by kernel_rfl) (by decide) (fun _ _ _ h => h) (by rfl) ?_ (by assumption) ?_
  rotate_left
  · intro w'
    go_simp
    try with_reducible rfl
  try simp only [Act.put, List.setIfInBounds_toArray, List.set_cons_zero, List.set_cons_succ]
  refine pickA (v := ?_) 43 (some 122) rfl rfl (by kernel_rfl) (by kernel_rfl) (by kernel_rfl) (by decide) (fun _ _ _ h => h) (by rfl) ?_ (by assumption) ?_
  rotate_left
  · intro w'
    go_simp
    try with_reducible rfl
  try simp only [Act.put, List.setIfInBounds_toArray, List.set_cons_zero, List.set_cons_succ]
  refine pickA (v := ?_) 44 (some 123) rfl rfl (by kernel_rfl) (by kernel_rfl) (by kernel_rfl) (by decide) (fun _ _ _ h => h) (by rfl) ?_ (by assumption) ?_
  rotate_left
  · intro w'
    go_simp
    try with_reducible rfl
  try simp only [Act.put, List.setIfInBounds_toArray, List.set_cons_zero, List.set_cons_succ]
  refine pickA (v := ?_) 45 (some 124) rfl rfl (by kernel_rfl) (by kernel_rfl) (by kernel_rfl) (by decide) (fun _ _ _ h => h) (by rfl) ?_ (by assumption) ?_
  rotate_left
  · intro w'
    go_simp
    try with_reducible rfl
  try simp only [Act.put, List.setIfInBounds_toArray, List.set_cons_zero, List.set_cons_succ]
  refine pickA (v := ?_) 46 (some 125) rfl rfl (by kernel_rfl) (by kernel_rfl) (by kernel_rfl) (by decide) (fun _ _ _ h => h) (by rfl) ?_ (by assumption) ?_
  rotate_left
  · intro w'
    go_simp
    try with_reducible rfl
  try simp only [Act.put, List.setIfInBounds_toArray, List.set_cons_zero, List.set_cons_succ]
  refine pickA (v := ?_) 47 (some 0) rfl rfl (by kernel_rfl) (by kernel_rfl) (by kernel_rfl) (by decide) (fun _ _ _ h => h) (by rfl) ?_ (by assumption) ?_
  rotate_left
  · intro w'
    go_simp
    try with_reducible rfl
  try simp only [Act.put, List.setIfInBounds_toArray, List.set_cons_zero]
  refine doneL (by kernel_rfl) ?_ _
  clear hHeld
  go_wp2
  go_ret
  exact ⟨rfl, B17.out⟩

end Go.Proofs.YtledkljffjomdaaDoor
