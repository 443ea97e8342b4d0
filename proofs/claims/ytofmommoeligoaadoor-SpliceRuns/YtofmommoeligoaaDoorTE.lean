/- Tell, Wake. -/
import Derived.Test.YtofmommoeligoaaDoorTD
namespace Go.Proofs.YtofmommoeligoaaDoor
open Go.RowKit Go.Maps Go.ChangeMaps

/-- It is told an answer. -/
def Sp.tell (S : Sp) (t : Option Th) (a : An) : Sp × Option Th :=
  if S.pl = 1 then (if a.k = 1 then ({ S with pl := 2, rg := a.r } : Sp).look t else (S.stepBack a, t))
  else if S.pl = 3 then S.hSame t a
  else if S.pl = 4 then S.hEnter t a
  else if S.pl = 5 then (S.hRight a, t)
  else if S.pl = 6 then ({ S with pl := 7 }, t)
  else if S.pl = 7 then S.hMine t a
  else if S.pl = 8 then S.hOut t a
  else if S.pl = 9 then (match t with
    | some h => (S.run h, t)
    | none => (S, t))
  else (S, t)
def Sp.wake (S : Sp) : Sp := if S.pl = 10 then { S with pl := 1 } else S
/-- Where it can be at, from outside. -/
def PlOk (S : Sp) (t : Option Th) : Prop := (S.pl = 1 ∨ 3 ≤ S.pl ∧ S.pl ≤ 11) ∧ (S.pl = 9 → t.isSome = true)
theorem ptr_eq (a : Addr) (w : World) : (binOp .eql 35 (.pointer (some a)) (.pointer none)).run Tryd.prog w = .ok (.bool false) w := by kernel_rfl
theorem ptr_ne (a : Addr) (w : World) : (binOp .neq 35 (.pointer (some a)) (.pointer none)).run Tryd.prog w = .ok (.bool true) w := by kernel_rfl

set_option maxHeartbeats 2000000 in
set_option maxRecDepth 100000 in
theorem tell_back (b : Nat) (S : Sp) (t : Option Th) (a : An) (hp : S.pl = 1) (hk : ¬a.k = 1) (w : World) (X : SpAt w b S t) : Calls Tryd.prog 16 #[.pointer (some ⟨b, 0, none⟩), .agg (anL a).toArray] w fun e' w' => e' = .returned (.tuple #[]) ∧ SpAt w' b (S.stepBack a) t ∧ Kp [b] w w' := by
  have b1 := (Below.refl w.heap.size w).alloc (Nat.le_refl _) (.cells (anL a).toArray 57)
  have AB := hide (IsB.new w (anL a).toArray 57)
  have X1 := hide (X.below b1)
  have KZ : Hid (Kp [b] w (w.alloc (.cells (anL a).toArray 57))) := Kp.of_below b1
  clear b1 X
  have LA := hide (ld_ans AB.out)
  have y14 : (w.alloc (.cells (anL a).toArray 57)).cell? ⟨b, 14, none⟩ = some (.int .i64 S.pl) := by obtain ⟨v, I, -⟩ := X1.out; exact cl_at I
  have pe := ptr_eq ⟨b, 0, none⟩ (w.alloc (.cells (anL a).toArray 57))
  rw [hp] at y14
  clear hp
  have y0 : (w.alloc (.cells (anL a).toArray 57)).cell? ⟨w.heap.size, 0, none⟩ = some (.int .i64 a.k) := cl_ak AB.out
  have e1 : (a.k == 1) = false := by simpa using hk
  have e2 : (a.k != 1) = true := by simpa using hk
  have CT := hide (back_any b S t a _ X1.out)
  generalize S.stepBack a = E at *
  generalize a.k = ak at *
  go_enter Tryd.func16, Tryd.ntmps16
  go_wp2_with (first | (focus ((with_reducible refine wpList_load_w ?_ 57 (.tmp 3) ?_ ?_ LA.out ?_); rotate_left; rfl; rfl; rotate_left; rfl)))
  refine CT.out.mono ?_
  rintro e' w6 ⟨rfl, X6, K6⟩
  have F6 := hide X6
  have K7 := hide (KZ.out.tr K6)
  clear X6 K6 LA y14
  go_wp2
  refine bodyPost_ret (results_none rfl _ _ _) rfl ?_
  exact ⟨rfl, F6.out, K7.out⟩

set_option maxHeartbeats 2000000 in
set_option maxRecDepth 100000 in
theorem tell_look (b : Nat) (S : Sp) (t : Option Th) (a : An) (hp : S.pl = 1) (hk : a.k = 1) (w : World) (X : SpAt w b S t) : Calls Tryd.prog 16 #[.pointer (some ⟨b, 0, none⟩), .agg (anL a).toArray] w fun e' w' => e' = .returned (.tuple #[]) ∧ SpAt w' b (({ S with pl := 2, rg := a.r } : Sp).look t).1 (({ S with pl := 2, rg := a.r } : Sp).look t).2 ∧ Kp [b] w w' := by
  have mixed : Tryd.prog.follows .mixedOrders = true := by kernel_rfl
  have b1 := (Below.refl w.heap.size w).alloc (Nat.le_refl _) (.cells (anL a).toArray 57)
  have AB := hide (IsB.new w (anL a).toArray 57)
  have X1 := hide (X.below b1)
  have KZ : Hid (Kp [b] w (w.alloc (.cells (anL a).toArray 57))) := Kp.of_below b1
  clear b1 X
  have LA := hide (ld_ans AB.out)
  have y14 : (w.alloc (.cells (anL a).toArray 57)).cell? ⟨b, 14, none⟩ = some (.int .i64 S.pl) := by obtain ⟨v, I, -⟩ := X1.out; exact cl_at I
  have pe := ptr_eq ⟨b, 0, none⟩ (w.alloc (.cells (anL a).toArray 57))
  rw [hp] at y14
  clear hp
  have y0 : (w.alloc (.cells (anL a).toArray 57)).cell? ⟨w.heap.size, 0, none⟩ = some (.int .i64 a.k) := cl_ak AB.out
  rw [hk] at y0
  clear hk
  obtain ⟨v, I, T⟩ := X1.out
  have hne : b ≠ w.heap.size := fun e => IsB.ne_t I AB.out (by decide) e
  have ID := hide (I.below ((Below.refl _ _).drew))
  have TD := hide (T.below ((Below.refl _ _).drew))
  have AD := hide (AB.out.below ((Below.refl _ _).drew))
  have KD := hide (KZ.out.bel ((Below.refl _ _).drew))
  obtain ⟨w2, hs2, I2, k2⟩ := st_at ID.out 2
  obtain ⟨w3, hs3, I3, k3⟩ := st_right I2 a.r
  have A2 := hide (AD.out.kp k2 (by simpa using fun e => hne e.symm))
  have X3 : Hid (SpAt w3 b { S with pl := 2, rg := a.r } t) := ⟨v, I3, TD.out.turn ID.out (k2.tr k3)⟩
  have CT := hide (look_any b { S with pl := 2, rg := a.r } t w3 X3.out)
  replace KZ := hide (KD.out.tr (k2.tr k3))
  have HS2 := hide hs2
  have HS3 := hide hs3
  generalize ({ S with pl := 2, rg := a.r } : Sp).look t = E at *
  clear hs2 hs3 I2 I3 k2 k3 I T X1 ID TD KD hne
  go_enter Tryd.func16, Tryd.ntmps16
  go_wp2_with fail
  generalize w.heap.size = H at *
  clear y0 pe
  refine regionL 9 (fun w' => IsB w' H (anL a).toArray 57) mixed AD.out (fun hHeld => ?_)
  generalize (w.alloc (.cells (anL a).toArray 57)).drew = WD at *
  refine pickA (v := ?_) 0 (some 34) rfl rfl (by kernel_rfl) (by kernel_rfl) (by kernel_rfl) (by decide) (fun _ _ _ h => h) (by rfl) ?_ (by assumption) ?_
  rotate_left
  · intro w'
    go_simp
    try with_reducible rfl
  try simp only [Act.put, List.setIfInBounds_toArray, List.set_cons_zero, List.set_cons_succ]
  refine pickA (v := ?_) 1 (some 35) rfl rfl (by kernel_rfl) (by kernel_rfl) (by kernel_rfl) (by decide) (fun _ _ _ h => h) (by rfl) ?_ (by assumption) ?_
  rotate_left
  · intro w'
    go_simp
    try with_reducible rfl
  try simp only [Act.put, List.setIfInBounds_toArray, List.set_cons_zero, List.set_cons_succ]
  refine pickA (v := ?_) 2 (some 36) rfl rfl (by kernel_rfl) (by kernel_rfl) (by kernel_rfl) (by decide) (fun _ _ _ h => h) (by rfl) ?_ (by assumption) ?_
  rotate_left
  · intro w'
    go_simp
    try with_reducible rfl
  try simp only [Act.put, List.setIfInBounds_toArray, List.set_cons_zero, List.set_cons_succ]
  refine pickL (v := .agg a.r.cells) 3 (some 37) rfl rfl (by kernel_rfl) (by kernel_rfl) (by kernel_rfl) (by decide) (by kernel_rfl) (by kernel_rfl) (fun _ _ _ h => h) (by rfl) ?_ (by assumption) ?_
  · intro w' hSw
    have q1 := hSw
    exact exec_load rfl rfl (ld_ar q1)
  try simp only [Act.put, List.setIfInBounds_toArray, List.set_cons_zero, List.set_cons_succ]
  refine pickA (v := ?_) 4 (some 38) rfl rfl (by kernel_rfl) (by kernel_rfl) (by kernel_rfl) (by decide) (fun _ _ _ h => h) (by rfl) ?_ (by assumption) ?_
  rotate_left
  · intro w'
    go_simp
    try with_reducible rfl
  try simp only [Act.put, List.setIfInBounds_toArray, List.set_cons_zero, List.set_cons_succ]
  refine pickA (v := ?_) 5 (some 39) rfl rfl (by kernel_rfl) (by kernel_rfl) (by kernel_rfl) (by decide) (fun _ _ _ h => h) (by rfl) ?_ (by assumption) ?_
  rotate_left
  · intro w'
    go_simp
    try with_reducible rfl
  try simp only [Act.put, List.setIfInBounds_toArray, List.set_cons_zero, List.set_cons_succ]
  refine oneL (i := 6) (by kernel_rfl) rfl (fun K hK => ?_)
  refine step_store_w rfl 82 (.tmp 39) (.const (.int .i64 2)) rfl rfl rfl HS2.out ?_
  refine hK.out _ _ ?_ ?_
  · exact A2.out
  clear hK K
  try simp only [Act.put, List.setIfInBounds_toArray]
  clear hHeld
  have hHeld : (fun w' => IsB w' H (anL a).toArray 57) w2 := A2.out
  refine pickA (v := ?_) 7 (some 40) rfl rfl (by kernel_rfl) (by kernel_rfl) (by kernel_rfl) (by decide) (fun _ _ _ h => h) (by rfl) ?_ (by assumption) ?_
  rotate_left
  · intro w'
    go_simp
    try with_reducible rfl
  try simp only [Act.put]
  refine pickA (v := ?_) 8 (some 41) rfl rfl (by kernel_rfl) (by kernel_rfl) (by kernel_rfl) (by decide) (fun _ _ _ h => h) (by rfl) ?_ (by assumption) ?_
  rotate_left
  · intro w'
    go_simp
    try with_reducible rfl
  try simp only [Act.put]
  refine lateL (i := 9) (by kernel_rfl) rfl (by decide) (by kernel_rfl) (fun K hK => ?_)
  refine step_store_w rfl 29 (.tmp 41) (.tmp 37) rfl rfl rfl HS3.out ?_
  refine hK.out _ _ ?_
  clear hK K
  try simp only [Act.put]
  refine doneL (by kernel_rfl) ?_ _
  clear hHeld
  clear A2 AD
  go_wp2_with fail
  refine CT.out.mono ?_
  rintro e' w6 ⟨rfl, X6, K6⟩
  have F6 := hide X6
  have K7 := hide (KZ.out.tr K6)
  clear X6 K6 LA y14
  go_wp2
  refine bodyPost_end (results_none rfl _ _ _) rfl ?_
  exact ⟨rfl, F6.out, K7.out⟩

set_option maxHeartbeats 2000000 in
set_option maxRecDepth 100000 in
theorem tell_same (b : Nat) (S : Sp) (t : Option Th) (a : An) (hp : S.pl = 3) (w : World) (X : SpAt w b S t) : Calls Tryd.prog 16 #[.pointer (some ⟨b, 0, none⟩), .agg (anL a).toArray] w fun e' w' => e' = .returned (.tuple #[]) ∧ SpAt w' b (S.hSame t a).1 (S.hSame t a).2 ∧ Kp [b] w w' := by
  have b1 := (Below.refl w.heap.size w).alloc (Nat.le_refl _) (.cells (anL a).toArray 57)
  have AB := hide (IsB.new w (anL a).toArray 57)
  have X1 := hide (X.below b1)
  have KZ : Hid (Kp [b] w (w.alloc (.cells (anL a).toArray 57))) := Kp.of_below b1
  clear b1 X
  have LA := hide (ld_ans AB.out)
  have y14 : (w.alloc (.cells (anL a).toArray 57)).cell? ⟨b, 14, none⟩ = some (.int .i64 S.pl) := by obtain ⟨v, I, -⟩ := X1.out; exact cl_at I
  have pe := ptr_eq ⟨b, 0, none⟩ (w.alloc (.cells (anL a).toArray 57))
  rw [hp] at y14
  clear hp
  have CT := hide (same_any b S t a _ X1.out)
  generalize S.hSame t a = E at *
  go_enter Tryd.func16, Tryd.ntmps16
  go_wp2_with (first | (focus ((with_reducible refine wpList_load_w ?_ 57 (.tmp 3) ?_ ?_ LA.out ?_); rotate_left; rfl; rfl; rotate_left; rfl)))
  refine CT.out.mono ?_
  rintro e' w6 ⟨rfl, X6, K6⟩
  have F6 := hide X6
  have K7 := hide (KZ.out.tr K6)
  clear X6 K6 LA y14
  go_wp2
  refine bodyPost_end (results_none rfl _ _ _) rfl ?_
  exact ⟨rfl, F6.out, K7.out⟩

set_option maxHeartbeats 2000000 in
set_option maxRecDepth 100000 in
theorem tell_enter (b : Nat) (S : Sp) (t : Option Th) (a : An) (hp : S.pl = 4) (w : World) (X : SpAt w b S t) : Calls Tryd.prog 16 #[.pointer (some ⟨b, 0, none⟩), .agg (anL a).toArray] w fun e' w' => e' = .returned (.tuple #[]) ∧ SpAt w' b (S.hEnter t a).1 (S.hEnter t a).2 ∧ Kp [b] w w' := by
  have b1 := (Below.refl w.heap.size w).alloc (Nat.le_refl _) (.cells (anL a).toArray 57)
  have AB := hide (IsB.new w (anL a).toArray 57)
  have X1 := hide (X.below b1)
  have KZ : Hid (Kp [b] w (w.alloc (.cells (anL a).toArray 57))) := Kp.of_below b1
  clear b1 X
  have LA := hide (ld_ans AB.out)
  have y14 : (w.alloc (.cells (anL a).toArray 57)).cell? ⟨b, 14, none⟩ = some (.int .i64 S.pl) := by obtain ⟨v, I, -⟩ := X1.out; exact cl_at I
  have pe := ptr_eq ⟨b, 0, none⟩ (w.alloc (.cells (anL a).toArray 57))
  rw [hp] at y14
  clear hp
  have CT := hide (enter_any b S t a _ X1.out)
  generalize S.hEnter t a = E at *
  go_enter Tryd.func16, Tryd.ntmps16
  go_wp2_with (first | (focus ((with_reducible refine wpList_load_w ?_ 57 (.tmp 3) ?_ ?_ LA.out ?_); rotate_left; rfl; rfl; rotate_left; rfl)))
  refine CT.out.mono ?_
  rintro e' w6 ⟨rfl, X6, K6⟩
  have F6 := hide X6
  have K7 := hide (KZ.out.tr K6)
  clear X6 K6 LA y14
  go_wp2
  refine bodyPost_end (results_none rfl _ _ _) rfl ?_
  exact ⟨rfl, F6.out, K7.out⟩

set_option maxHeartbeats 2000000 in
set_option maxRecDepth 100000 in
theorem tell_mine (b : Nat) (S : Sp) (t : Option Th) (a : An) (hp : S.pl = 7) (w : World) (X : SpAt w b S t) : Calls Tryd.prog 16 #[.pointer (some ⟨b, 0, none⟩), .agg (anL a).toArray] w fun e' w' => e' = .returned (.tuple #[]) ∧ SpAt w' b (S.hMine t a).1 (S.hMine t a).2 ∧ Kp [b] w w' := by
  have b1 := (Below.refl w.heap.size w).alloc (Nat.le_refl _) (.cells (anL a).toArray 57)
  have AB := hide (IsB.new w (anL a).toArray 57)
  have X1 := hide (X.below b1)
  have KZ : Hid (Kp [b] w (w.alloc (.cells (anL a).toArray 57))) := Kp.of_below b1
  clear b1 X
  have LA := hide (ld_ans AB.out)
  have y14 : (w.alloc (.cells (anL a).toArray 57)).cell? ⟨b, 14, none⟩ = some (.int .i64 S.pl) := by obtain ⟨v, I, -⟩ := X1.out; exact cl_at I
  have pe := ptr_eq ⟨b, 0, none⟩ (w.alloc (.cells (anL a).toArray 57))
  rw [hp] at y14
  clear hp
  have CT := hide (mine_any b S t a _ X1.out)
  generalize S.hMine t a = E at *
  go_enter Tryd.func16, Tryd.ntmps16
  go_wp2_with (first | (focus ((with_reducible refine wpList_load_w ?_ 57 (.tmp 3) ?_ ?_ LA.out ?_); rotate_left; rfl; rfl; rotate_left; rfl)))
  refine CT.out.mono ?_
  rintro e' w6 ⟨rfl, X6, K6⟩
  have F6 := hide X6
  have K7 := hide (KZ.out.tr K6)
  clear X6 K6 LA y14
  go_wp2
  refine bodyPost_end (results_none rfl _ _ _) rfl ?_
  exact ⟨rfl, F6.out, K7.out⟩

set_option maxHeartbeats 2000000 in
set_option maxRecDepth 100000 in
theorem tell_out (b : Nat) (S : Sp) (t : Option Th) (a : An) (hp : S.pl = 8) (w : World) (X : SpAt w b S t) : Calls Tryd.prog 16 #[.pointer (some ⟨b, 0, none⟩), .agg (anL a).toArray] w fun e' w' => e' = .returned (.tuple #[]) ∧ SpAt w' b (S.hOut t a).1 (S.hOut t a).2 ∧ Kp [b] w w' := by
  have b1 := (Below.refl w.heap.size w).alloc (Nat.le_refl _) (.cells (anL a).toArray 57)
  have AB := hide (IsB.new w (anL a).toArray 57)
  have X1 := hide (X.below b1)
  have KZ : Hid (Kp [b] w (w.alloc (.cells (anL a).toArray 57))) := Kp.of_below b1
  clear b1 X
  have LA := hide (ld_ans AB.out)
  have y14 : (w.alloc (.cells (anL a).toArray 57)).cell? ⟨b, 14, none⟩ = some (.int .i64 S.pl) := by obtain ⟨v, I, -⟩ := X1.out; exact cl_at I
  have pe := ptr_eq ⟨b, 0, none⟩ (w.alloc (.cells (anL a).toArray 57))
  rw [hp] at y14
  clear hp
  have CT := hide (out_any b S t a _ X1.out)
  generalize S.hOut t a = E at *
  go_enter Tryd.func16, Tryd.ntmps16
  go_wp2_with (first | (focus ((with_reducible refine wpList_load_w ?_ 57 (.tmp 3) ?_ ?_ LA.out ?_); rotate_left; rfl; rfl; rotate_left; rfl)))
  refine CT.out.mono ?_
  rintro e' w6 ⟨rfl, X6, K6⟩
  have F6 := hide X6
  have K7 := hide (KZ.out.tr K6)
  clear X6 K6 LA y14
  go_wp2
  refine bodyPost_end (results_none rfl _ _ _) rfl ?_
  exact ⟨rfl, F6.out, K7.out⟩

set_option maxHeartbeats 2000000 in
set_option maxRecDepth 100000 in
theorem tell_right (b : Nat) (S : Sp) (t : Option Th) (a : An) (hp : S.pl = 5) (w : World) (X : SpAt w b S t) : Calls Tryd.prog 16 #[.pointer (some ⟨b, 0, none⟩), .agg (anL a).toArray] w fun e' w' => e' = .returned (.tuple #[]) ∧ SpAt w' b (S.hRight a) t ∧ Kp [b] w w' := by
  have b1 := (Below.refl w.heap.size w).alloc (Nat.le_refl _) (.cells (anL a).toArray 57)
  have AB := hide (IsB.new w (anL a).toArray 57)
  have X1 := hide (X.below b1)
  have KZ : Hid (Kp [b] w (w.alloc (.cells (anL a).toArray 57))) := Kp.of_below b1
  clear b1 X
  have LA := hide (ld_ans AB.out)
  have y14 : (w.alloc (.cells (anL a).toArray 57)).cell? ⟨b, 14, none⟩ = some (.int .i64 S.pl) := by obtain ⟨v, I, -⟩ := X1.out; exact cl_at I
  have pe := ptr_eq ⟨b, 0, none⟩ (w.alloc (.cells (anL a).toArray 57))
  rw [hp] at y14
  clear hp
  have CT := hide (right_any b S t a _ X1.out)
  generalize S.hRight a = E at *
  go_enter Tryd.func16, Tryd.ntmps16
  go_wp2_with (first | (focus ((with_reducible refine wpList_load_w ?_ 57 (.tmp 3) ?_ ?_ LA.out ?_); rotate_left; rfl; rfl; rotate_left; rfl)))
  refine CT.out.mono ?_
  rintro e' w6 ⟨rfl, X6, K6⟩
  have F6 := hide X6
  have K7 := hide (KZ.out.tr K6)
  clear X6 K6 LA y14
  go_wp2
  refine bodyPost_end (results_none rfl _ _ _) rfl ?_
  exact ⟨rfl, F6.out, K7.out⟩

set_option maxHeartbeats 2000000 in
set_option maxRecDepth 100000 in
theorem tell_left (b : Nat) (S : Sp) (t : Option Th) (a : An) (hp : S.pl = 6) (w : World) (X : SpAt w b S t) : Calls Tryd.prog 16 #[.pointer (some ⟨b, 0, none⟩), .agg (anL a).toArray] w fun e' w' => e' = .returned (.tuple #[]) ∧ SpAt w' b { S with pl := 7 } t ∧ Kp [b] w w' := by
  have b1 := (Below.refl w.heap.size w).alloc (Nat.le_refl _) (.cells (anL a).toArray 57)
  have AB := hide (IsB.new w (anL a).toArray 57)
  have X1 := hide (X.below b1)
  have KZ : Hid (Kp [b] w (w.alloc (.cells (anL a).toArray 57))) := Kp.of_below b1
  clear b1 X
  have LA := hide (ld_ans AB.out)
  have y14 : (w.alloc (.cells (anL a).toArray 57)).cell? ⟨b, 14, none⟩ = some (.int .i64 S.pl) := by obtain ⟨v, I, -⟩ := X1.out; exact cl_at I
  have pe := ptr_eq ⟨b, 0, none⟩ (w.alloc (.cells (anL a).toArray 57))
  rw [hp] at y14
  clear hp
  obtain ⟨v, I, T⟩ := X1.out
  obtain ⟨w9, hs9, I9, k9⟩ := st_at I 7
  have F6 : Hid (SpAt w9 b { S with pl := 7 } t) := ⟨v, I9, T.turn I k9⟩
  have K7 := hide (KZ.out.tr k9)
  have HS9 := hide hs9
  clear hs9 I9 k9 I T X1
  go_enter Tryd.func16, Tryd.ntmps16
  go_wp2_with (first | (focus ((with_reducible refine wpList_store_w ?_ 82 (.tmp 55) (.const (.int .i64 7)) ?_ ?_ ?_ HS9.out ?_); rotate_left; rfl; rfl; rfl; rotate_left; rfl)))
  refine bodyPost_end (results_none rfl _ _ _) rfl ?_
  exact ⟨rfl, F6.out, K7.out⟩

set_option maxHeartbeats 2000000 in
set_option maxRecDepth 100000 in
theorem tell_free0 (b : Nat) (S : Sp) (t : Option Th) (w : World) (a : An) (hp : S.pl = 9) (S2 : Sp) (f : Nat) (eg : ∀ args w, (callFunc f args).run Tryd.prog w = .ok (.enter f args) w) (hv : ∀ v, IsB w b (spL S v).toArray 85 → v = .func (.func f) #[] #[]) (X : SpAt w b S t) (HC : ∀ W, SpAt W b S t → Below w.heap.size w W → Calls Tryd.prog f #[.pointer (some ⟨b, 0, none⟩)] W fun e' w' => e' = .returned (.tuple #[]) ∧ SpAt w' b S2 t ∧ Kp [b] W w') : Calls Tryd.prog 16 #[.pointer (some ⟨b, 0, none⟩), .agg (anL a).toArray] w fun e' w' => e' = .returned (.tuple #[]) ∧ SpAt w' b S2 t ∧ Kp [b] w w' := by
  have b0 := (Below.refl w.heap.size w).alloc (Nat.le_refl _) (.cells (anL a).toArray 57)
  have hlt := X.lt
  obtain ⟨v, I, T⟩ := X
  obtain rfl := hv v I
  have X : SpAt w b S t := ⟨_, I, T⟩
  have b1 := (Below.refl w.heap.size w).alloc (Nat.le_refl _) (.cells (anL a).toArray 57)
  have AB := hide (IsB.new w (anL a).toArray 57)
  have X1 := hide (X.below b1)
  have KZ : Hid (Kp [b] w (w.alloc (.cells (anL a).toArray 57))) := Kp.of_below b1
  clear b1 X
  have LA := hide (ld_ans AB.out)
  have y14 : (w.alloc (.cells (anL a).toArray 57)).cell? ⟨b, 14, none⟩ = some (.int .i64 S.pl) := by obtain ⟨v, I, -⟩ := X1.out; exact cl_at I
  have pe := ptr_eq ⟨b, 0, none⟩ (w.alloc (.cells (anL a).toArray 57))
  rw [hp] at y14
  clear hp
  have HC1 := hide (HC _ X1.out b0)
  have y32 : (w.alloc (.cells (anL a).toArray 57)).cell? ⟨b, 32, none⟩ = some (.func (.func f) #[] #[]) := cl_then (I.below b0)
  clear b0 I T hv HC hlt
  go_enter Tryd.func16, Tryd.ntmps16
  go_wp2_with (go_at_fn f; refine HC1.out.mono ?_; (rintro e' w1 ⟨rfl, X6, K6⟩); have F6 := hide X6; have K7 := hide (KZ.out.tr K6); clear X6 K6)
  refine bodyPost_end (results_none rfl _ _ _) rfl ?_
  exact ⟨rfl, F6.out, K7.out⟩

set_option maxHeartbeats 2000000 in
set_option maxRecDepth 100000 in
theorem tell_free1 (b : Nat) (S : Sp) (t : Option Th) (w : World) (a : An) (hp : S.pl = 9) (S2 : Sp) (f : Nat) (eg : ∀ args w, (callFunc f args).run Tryd.prog w = .ok (.enter f args) w) (p : Value) (hv : ∀ v, IsB w b (spL S v).toArray 85 → v = .func (.func f) #[] #[p]) (X : SpAt w b S t) (HC : ∀ W, SpAt W b S t → Below w.heap.size w W → Calls Tryd.prog f #[.pointer (some ⟨b, 0, none⟩), p] W fun e' w' => e' = .returned (.tuple #[]) ∧ SpAt w' b S2 t ∧ Kp [b] W w') : Calls Tryd.prog 16 #[.pointer (some ⟨b, 0, none⟩), .agg (anL a).toArray] w fun e' w' => e' = .returned (.tuple #[]) ∧ SpAt w' b S2 t ∧ Kp [b] w w' := by
  have b0 := (Below.refl w.heap.size w).alloc (Nat.le_refl _) (.cells (anL a).toArray 57)
  have hlt := X.lt
  obtain ⟨v, I, T⟩ := X
  obtain rfl := hv v I
  have X : SpAt w b S t := ⟨_, I, T⟩
  have b1 := (Below.refl w.heap.size w).alloc (Nat.le_refl _) (.cells (anL a).toArray 57)
  have AB := hide (IsB.new w (anL a).toArray 57)
  have X1 := hide (X.below b1)
  have KZ : Hid (Kp [b] w (w.alloc (.cells (anL a).toArray 57))) := Kp.of_below b1
  clear b1 X
  have LA := hide (ld_ans AB.out)
  have y14 : (w.alloc (.cells (anL a).toArray 57)).cell? ⟨b, 14, none⟩ = some (.int .i64 S.pl) := by obtain ⟨v, I, -⟩ := X1.out; exact cl_at I
  have pe := ptr_eq ⟨b, 0, none⟩ (w.alloc (.cells (anL a).toArray 57))
  rw [hp] at y14
  clear hp
  have HC1 := hide (HC _ X1.out b0)
  have y32 : (w.alloc (.cells (anL a).toArray 57)).cell? ⟨b, 32, none⟩ = some (.func (.func f) #[] #[p]) := cl_then (I.below b0)
  clear b0 I T hv HC hlt
  go_enter Tryd.func16, Tryd.ntmps16
  go_wp2_with (go_at_fn f; refine HC1.out.mono ?_; (rintro e' w1 ⟨rfl, X6, K6⟩); have F6 := hide X6; have K7 := hide (KZ.out.tr K6); clear X6 K6)
  refine bodyPost_end (results_none rfl _ _ _) rfl ?_
  exact ⟨rfl, F6.out, K7.out⟩

set_option maxHeartbeats 2000000 in
set_option maxRecDepth 100000 in
theorem tell_not (b : Nat) (S : Sp) (t : Option Th) (a : An) (hp : S.pl = 10 ∨ S.pl = 11) (w : World) (X : SpAt w b S t) : Calls Tryd.prog 16 #[.pointer (some ⟨b, 0, none⟩), .agg (anL a).toArray] w fun e' w' => e' = .returned (.tuple #[]) ∧ SpAt w' b S t ∧ Kp [b] w w' := by
  have b1 := (Below.refl w.heap.size w).alloc (Nat.le_refl _) (.cells (anL a).toArray 57)
  have AB := hide (IsB.new w (anL a).toArray 57)
  have X1 := hide (X.below b1)
  have KZ : Hid (Kp [b] w (w.alloc (.cells (anL a).toArray 57))) := Kp.of_below b1
  clear b1 X
  have LA := hide (ld_ans AB.out)
  have y14 : (w.alloc (.cells (anL a).toArray 57)).cell? ⟨b, 14, none⟩ = some (.int .i64 S.pl) := by obtain ⟨v, I, -⟩ := X1.out; exact cl_at I
  have pe := ptr_eq ⟨b, 0, none⟩ (w.alloc (.cells (anL a).toArray 57))
  rcases hp with hp | hp
  · rw [hp] at y14
    clear hp
    go_enter Tryd.func16, Tryd.ntmps16
    go_wp2
    refine bodyPost_end (results_none rfl _ _ _) rfl ?_
    exact ⟨rfl, X1.out, KZ.out⟩
  · rw [hp] at y14
    clear hp
    go_enter Tryd.func16, Tryd.ntmps16
    go_wp2
    refine bodyPost_end (results_none rfl _ _ _) rfl ?_
    exact ⟨rfl, X1.out, KZ.out⟩

theorem spL_then {w : World} {b : Nat} {S : Sp} {u v : Value} (h : IsB w b (spL S u).toArray 85) (k : IsB w b (spL S v).toArray 85) : u = v := by
  have h1 := h.cell 32
  have h2 := k.cell 32
  have h3 := h1.symm.trans h2
  simpa [spL] using h3
theorem tell_free (b : Nat) (S : Sp) (t : Option Th) (w : World) (h : Th) (ht : t = some h) (a : An) (hp : S.pl = 9) (X : SpAt w b S t) : Calls Tryd.prog 16 #[.pointer (some ⟨b, 0, none⟩), .agg (anL a).toArray] w fun e' w' => e' = .returned (.tuple #[]) ∧ SpAt w' b (S.run h) t ∧ Kp [b] w w' := by
  obtain ⟨v, I, T⟩ := id X
  subst ht
  cases h with
  | wait =>
    obtain rfl := T
    exact tell_free0 b S _ w a hp S.wait _ e_wait (fun u hu => spL_then hu I) X (fun W XW _ => c_wait b S _ W XW)
  | fin e l r =>
    obtain ⟨k, rfl, J⟩ := T
    exact tell_free1 b S _ w a hp (S.fin e l r) _ e_fin _ (fun u hu => spL_then hu I) X (fun W XW hb => c_fin b S _ e l r k W XW (J.below hb))
  | go x =>
    obtain ⟨k, rfl, J⟩ := T
    exact tell_free1 b S _ w a hp (S.goTo x) _ e_go _ (fun u hu => spL_then hu I) X (fun W XW hb => c_go b S _ x k W XW (J.below hb))
theorem tell_any (b : Nat) (S : Sp) (t : Option Th) (a : An) (ho : PlOk S t) (w : World) (X : SpAt w b S t) : Calls Tryd.prog 16 #[.pointer (some ⟨b, 0, none⟩), .agg (anL a).toArray] w fun e' w' => e' = .returned (.tuple #[]) ∧ SpAt w' b (S.tell t a).1 (S.tell t a).2 ∧ Kp [b] w w' := by
  unfold Sp.tell
  by_cases h1 : S.pl = 1
  · rw [if_pos h1]
    by_cases hk : a.k = 1
    · rw [if_pos hk]; exact tell_look b S t a h1 hk w X
    · rw [if_neg hk]; exact tell_back b S t a h1 hk w X
  rw [if_neg h1]
  by_cases h3 : S.pl = 3
  · rw [if_pos h3]; exact tell_same b S t a h3 w X
  rw [if_neg h3]
  by_cases h4 : S.pl = 4
  · rw [if_pos h4]; exact tell_enter b S t a h4 w X
  rw [if_neg h4]
  by_cases h5 : S.pl = 5
  · rw [if_pos h5]; exact tell_right b S t a h5 w X
  rw [if_neg h5]
  by_cases h6 : S.pl = 6
  · rw [if_pos h6]; exact tell_left b S t a h6 w X
  rw [if_neg h6]
  by_cases h7 : S.pl = 7
  · rw [if_pos h7]; exact tell_mine b S t a h7 w X
  rw [if_neg h7]
  by_cases h8 : S.pl = 8
  · rw [if_pos h8]; exact tell_out b S t a h8 w X
  rw [if_neg h8]
  by_cases h9 : S.pl = 9
  · rw [if_pos h9]
    cases t with
    | none => exact absurd (ho.2 h9) (by simp)
    | some h => exact tell_free b S _ w h rfl a h9 X
  rw [if_neg h9]
  exact tell_not b S t a (by have := ho.1; omega) w X

set_option maxHeartbeats 2000000 in
set_option maxRecDepth 100000 in
theorem wake_yes (b : Nat) (S : Sp) (t : Option Th) (hp : S.pl = 10) (w : World) (X : SpAt w b S t) : Calls Tryd.prog 14 #[.pointer (some ⟨b, 0, none⟩)] w fun e' w' => e' = .returned (.tuple #[]) ∧ SpAt w' b { S with pl := 1 } t ∧ Kp [b] w w' := by
  obtain ⟨v, I, T⟩ := X
  have y14 := cl_at I
  have pn := ptr_ne ⟨b, 0, none⟩ w
  rw [hp] at y14
  clear hp
  obtain ⟨w9, hs9, I9, k9⟩ := st_at I 1
  have F6 : Hid (SpAt w9 b { S with pl := 1 } t) := ⟨v, I9, T.turn I k9⟩
  have K7 := hide k9
  have HS9 := hide hs9
  clear hs9 I9 k9 I T
  go_enter Tryd.func14, Tryd.ntmps14
  go_wp2_with (first | (focus ((with_reducible refine wpList_store_w ?_ 82 (.tmp 13) (.const (.int .i64 1)) ?_ ?_ ?_ HS9.out ?_); rotate_left; rfl; rfl; rfl; rotate_left; rfl)))
  refine bodyPost_end (results_none rfl _ _ _) rfl ?_
  exact ⟨rfl, F6.out, K7.out⟩

set_option maxHeartbeats 2000000 in
set_option maxRecDepth 100000 in
theorem wake_no (b : Nat) (S : Sp) (t : Option Th) (hp : ¬S.pl = 10) (w : World) (X : SpAt w b S t) : Calls Tryd.prog 14 #[.pointer (some ⟨b, 0, none⟩)] w fun e' w' => e' = .returned (.tuple #[]) ∧ SpAt w' b S t ∧ Kp [b] w w' := by
  have X1 := hide X
  obtain ⟨v, I, T⟩ := X
  have y14 := cl_at I
  have pn := ptr_ne ⟨b, 0, none⟩ w
  have e1 : (S.pl == 10) = false := by simpa using hp
  generalize hg : S.pl = pl at *
  replace hg := hide hg
  clear I T
  go_enter Tryd.func14, Tryd.ntmps14
  go_wp2
  refine bodyPost_end (results_none rfl _ _ _) rfl ?_
  exact ⟨rfl, X1.out, Kp.refl _ _⟩

theorem wake_any (b : Nat) (S : Sp) (t : Option Th) (w : World) (X : SpAt w b S t) : Calls Tryd.prog 14 #[.pointer (some ⟨b, 0, none⟩)] w fun e' w' => e' = .returned (.tuple #[]) ∧ SpAt w' b S.wake t ∧ Kp [b] w w' := by
  unfold Sp.wake
  by_cases hp : S.pl = 10
  · rw [if_pos hp]; exact wake_yes b S t hp w X
  · rw [if_neg hp]; exact wake_no b S t hp w X

end Go.Proofs.YtofmommoeligoaaDoor
