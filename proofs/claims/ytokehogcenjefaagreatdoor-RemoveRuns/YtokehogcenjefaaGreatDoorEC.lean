/- Tell, Wake. -/
import Derived.Test.YtokehogcenjefaaGreatDoorEB
namespace Go.Proofs.YtokehogcenjefaaGreatDoor
open Go.RowKit Go.Maps Go.ChangeMaps

/-- It is told an answer. -/
def Us.tell (S : Us) (a : An) : Us :=
 if S.pl = 1 then S.hRead a
 else if S.pl = 2 then S.hLeft a
 else if S.pl = 3 then S.hMe a
 else if S.pl = 4 then S.hRt a
 else if S.pl = 5 then { S with pl := 6 }
 else if S.pl = 6 then { S with bh := 10, e := endE a.k, pl := 8 }
 else if S.pl = 7 then { S with pl := 8 }
 else if S.pl = 8 then { S with pl := S.bh }
 else S
def Us.wake (S : Us) : Us := if S.pl = 9 then { S with pl := 1 } else S

set_option maxHeartbeats 2000000 in
set_option maxRecDepth 100000 in
theorem tell_1 (b : Nat) (S : Us) (a : An) (hp : S.pl = 1) (w : World) (X : UsAt w b S) : Calls Tryz.prog 165 #[.pointer (some ⟨b, 0, none⟩), .agg (anL a).toArray] w fun e' w' => e' = .returned (.tuple #[]) ∧ UsAt w' b (S.hRead a) ∧ Kp [b] w w' := by
 have b1 := (Below.refl w.heap.size w).alloc (Nat.le_refl _) (.cells (anL a).toArray 62)
 have A := hide (IsB.new w (anL a).toArray 62)
 have I := hide (X.below b1)
 have KZ : Hid (Kp [b] w (w.alloc (.cells (anL a).toArray 62))) := Kp.of_below b1
 clear b1 X
 have LA := hide (ld_ans A.out)
 have y9 : (w.alloc (.cells (anL a).toArray 62)).cell? ⟨b, 9, none⟩ = some (.int .i64 S.pl) := cl_at I.out
 have pe := ptr_eq ⟨b, 0, none⟩ (w.alloc (.cells (anL a).toArray 62))
 rw [hp] at y9
 clear hp
 have CT := hide (read_any b S a _ I.out)
 generalize S.hRead a = E at *
 go_enter Tryz.func165, Tryz.ntmps165
 go_wp2_with (first | (focus ((with_reducible refine wpList_load_w ?_ 62 (.tmp 3) ?_ ?_ LA.out ?_); rotate_left; rfl; rfl; rotate_left; rfl)))
 refine CT.out.mono ?_
 rintro e' w6 ⟨rfl, X6, K6⟩
 have F6 := hide X6
 have K7 := hide (KZ.out.tr K6)
 clear X6 K6 LA y9
 try go_wp2
 refine bodyPost_end (results_none rfl _ _ _) rfl ?_
 exact ⟨rfl, F6.out, K7.out⟩

set_option maxHeartbeats 2000000 in
set_option maxRecDepth 100000 in
theorem tell_2 (b : Nat) (S : Us) (a : An) (hp : S.pl = 2) (w : World) (X : UsAt w b S) : Calls Tryz.prog 165 #[.pointer (some ⟨b, 0, none⟩), .agg (anL a).toArray] w fun e' w' => e' = .returned (.tuple #[]) ∧ UsAt w' b (S.hLeft a) ∧ Kp [b] w w' := by
 have b1 := (Below.refl w.heap.size w).alloc (Nat.le_refl _) (.cells (anL a).toArray 62)
 have A := hide (IsB.new w (anL a).toArray 62)
 have I := hide (X.below b1)
 have KZ : Hid (Kp [b] w (w.alloc (.cells (anL a).toArray 62))) := Kp.of_below b1
 clear b1 X
 have LA := hide (ld_ans A.out)
 have y9 : (w.alloc (.cells (anL a).toArray 62)).cell? ⟨b, 9, none⟩ = some (.int .i64 S.pl) := cl_at I.out
 have pe := ptr_eq ⟨b, 0, none⟩ (w.alloc (.cells (anL a).toArray 62))
 rw [hp] at y9
 clear hp
 have CT := hide (left_any b S a _ I.out)
 generalize S.hLeft a = E at *
 go_enter Tryz.func165, Tryz.ntmps165
 go_wp2_with (first | (focus ((with_reducible refine wpList_load_w ?_ 62 (.tmp 3) ?_ ?_ LA.out ?_); rotate_left; rfl; rfl; rotate_left; rfl)))
 refine CT.out.mono ?_
 rintro e' w6 ⟨rfl, X6, K6⟩
 have F6 := hide X6
 have K7 := hide (KZ.out.tr K6)
 clear X6 K6 LA y9
 try go_wp2
 refine bodyPost_end (results_none rfl _ _ _) rfl ?_
 exact ⟨rfl, F6.out, K7.out⟩

set_option maxHeartbeats 2000000 in
set_option maxRecDepth 100000 in
theorem tell_3 (b : Nat) (S : Us) (a : An) (hp : S.pl = 3) (w : World) (X : UsAt w b S) : Calls Tryz.prog 165 #[.pointer (some ⟨b, 0, none⟩), .agg (anL a).toArray] w fun e' w' => e' = .returned (.tuple #[]) ∧ UsAt w' b (S.hMe a) ∧ Kp [b] w w' := by
 have b1 := (Below.refl w.heap.size w).alloc (Nat.le_refl _) (.cells (anL a).toArray 62)
 have A := hide (IsB.new w (anL a).toArray 62)
 have I := hide (X.below b1)
 have KZ : Hid (Kp [b] w (w.alloc (.cells (anL a).toArray 62))) := Kp.of_below b1
 clear b1 X
 have LA := hide (ld_ans A.out)
 have y9 : (w.alloc (.cells (anL a).toArray 62)).cell? ⟨b, 9, none⟩ = some (.int .i64 S.pl) := cl_at I.out
 have pe := ptr_eq ⟨b, 0, none⟩ (w.alloc (.cells (anL a).toArray 62))
 rw [hp] at y9
 clear hp
 have CT := hide (me_any b S a _ I.out)
 generalize S.hMe a = E at *
 go_enter Tryz.func165, Tryz.ntmps165
 go_wp2_with (first | (focus ((with_reducible refine wpList_load_w ?_ 62 (.tmp 3) ?_ ?_ LA.out ?_); rotate_left; rfl; rfl; rotate_left; rfl)))
 refine CT.out.mono ?_
 rintro e' w6 ⟨rfl, X6, K6⟩
 have F6 := hide X6
 have K7 := hide (KZ.out.tr K6)
 clear X6 K6 LA y9
 try go_wp2
 refine bodyPost_end (results_none rfl _ _ _) rfl ?_
 exact ⟨rfl, F6.out, K7.out⟩

set_option maxHeartbeats 2000000 in
set_option maxRecDepth 100000 in
theorem tell_4 (b : Nat) (S : Us) (a : An) (hp : S.pl = 4) (w : World) (X : UsAt w b S) : Calls Tryz.prog 165 #[.pointer (some ⟨b, 0, none⟩), .agg (anL a).toArray] w fun e' w' => e' = .returned (.tuple #[]) ∧ UsAt w' b (S.hRt a) ∧ Kp [b] w w' := by
 have b1 := (Below.refl w.heap.size w).alloc (Nat.le_refl _) (.cells (anL a).toArray 62)
 have A := hide (IsB.new w (anL a).toArray 62)
 have I := hide (X.below b1)
 have KZ : Hid (Kp [b] w (w.alloc (.cells (anL a).toArray 62))) := Kp.of_below b1
 clear b1 X
 have LA := hide (ld_ans A.out)
 have y9 : (w.alloc (.cells (anL a).toArray 62)).cell? ⟨b, 9, none⟩ = some (.int .i64 S.pl) := cl_at I.out
 have pe := ptr_eq ⟨b, 0, none⟩ (w.alloc (.cells (anL a).toArray 62))
 rw [hp] at y9
 clear hp
 have CT := hide (rt_any b S a _ I.out)
 generalize S.hRt a = E at *
 go_enter Tryz.func165, Tryz.ntmps165
 go_wp2_with (first | (focus ((with_reducible refine wpList_load_w ?_ 62 (.tmp 3) ?_ ?_ LA.out ?_); rotate_left; rfl; rfl; rotate_left; rfl)))
 refine CT.out.mono ?_
 rintro e' w6 ⟨rfl, X6, K6⟩
 have F6 := hide X6
 have K7 := hide (KZ.out.tr K6)
 clear X6 K6 LA y9
 try go_wp2
 refine bodyPost_end (results_none rfl _ _ _) rfl ?_
 exact ⟨rfl, F6.out, K7.out⟩

set_option maxHeartbeats 2000000 in
set_option maxRecDepth 100000 in
theorem tell_5 (b : Nat) (S : Us) (a : An) (hp : S.pl = 5) (w : World) (X : UsAt w b S) : Calls Tryz.prog 165 #[.pointer (some ⟨b, 0, none⟩), .agg (anL a).toArray] w fun e' w' => e' = .returned (.tuple #[]) ∧ UsAt w' b ({ S with pl := 6 }) ∧ Kp [b] w w' := by
 have b1 := (Below.refl w.heap.size w).alloc (Nat.le_refl _) (.cells (anL a).toArray 62)
 have A := hide (IsB.new w (anL a).toArray 62)
 have I := hide (X.below b1)
 have KZ : Hid (Kp [b] w (w.alloc (.cells (anL a).toArray 62))) := Kp.of_below b1
 clear b1 X
 have LA := hide (ld_ans A.out)
 have y9 : (w.alloc (.cells (anL a).toArray 62)).cell? ⟨b, 9, none⟩ = some (.int .i64 S.pl) := cl_at I.out
 have pe := ptr_eq ⟨b, 0, none⟩ (w.alloc (.cells (anL a).toArray 62))
 rw [hp] at y9
 clear hp
 clear LA
 obtain ⟨w2, hs2, I2, k2⟩ := st_at I.out 6
 have HS2 := hide hs2
 have F6 := hide I2
 have K7 := hide (KZ.out.tr k2)
 clear hs2 I2 k2
 go_enter Tryz.func165, Tryz.ntmps165
 go_wp2_with (first | (focus ((with_reducible refine wpList_store_w ?_ 213 (.tmp 40) (.const (.int .i64 6)) ?_ ?_ ?_ HS2.out ?_); rotate_left; rfl; rfl; rfl; rotate_left; rfl)))
 try go_wp2
 refine bodyPost_end (results_none rfl _ _ _) rfl ?_
 exact ⟨rfl, F6.out, K7.out⟩

set_option maxHeartbeats 2000000 in
set_option maxRecDepth 100000 in
theorem tell_7 (b : Nat) (S : Us) (a : An) (hp : S.pl = 7) (w : World) (X : UsAt w b S) : Calls Tryz.prog 165 #[.pointer (some ⟨b, 0, none⟩), .agg (anL a).toArray] w fun e' w' => e' = .returned (.tuple #[]) ∧ UsAt w' b ({ S with pl := 8 }) ∧ Kp [b] w w' := by
 have b1 := (Below.refl w.heap.size w).alloc (Nat.le_refl _) (.cells (anL a).toArray 62)
 have A := hide (IsB.new w (anL a).toArray 62)
 have I := hide (X.below b1)
 have KZ : Hid (Kp [b] w (w.alloc (.cells (anL a).toArray 62))) := Kp.of_below b1
 clear b1 X
 have LA := hide (ld_ans A.out)
 have y9 : (w.alloc (.cells (anL a).toArray 62)).cell? ⟨b, 9, none⟩ = some (.int .i64 S.pl) := cl_at I.out
 have pe := ptr_eq ⟨b, 0, none⟩ (w.alloc (.cells (anL a).toArray 62))
 rw [hp] at y9
 clear hp
 clear LA
 obtain ⟨w2, hs2, I2, k2⟩ := st_at I.out 8
 have HS2 := hide hs2
 have F6 := hide I2
 have K7 := hide (KZ.out.tr k2)
 clear hs2 I2 k2
 go_enter Tryz.func165, Tryz.ntmps165
 go_wp2_with (first | (focus ((with_reducible refine wpList_store_w ?_ 213 (.tmp 46) (.const (.int .i64 8)) ?_ ?_ ?_ HS2.out ?_); rotate_left; rfl; rfl; rfl; rotate_left; rfl)))
 try go_wp2
 refine bodyPost_end (results_none rfl _ _ _) rfl ?_
 exact ⟨rfl, F6.out, K7.out⟩

set_option maxHeartbeats 2000000 in
set_option maxRecDepth 100000 in
theorem tell_6 (b : Nat) (S : Us) (a : An) (hp : S.pl = 6) (w : World) (X : UsAt w b S) : Calls Tryz.prog 165 #[.pointer (some ⟨b, 0, none⟩), .agg (anL a).toArray] w fun e' w' => e' = .returned (.tuple #[]) ∧ UsAt w' b ({ S with bh := 10, e := endE a.k, pl := 8 }) ∧ Kp [b] w w' := by
 have b1 := (Below.refl w.heap.size w).alloc (Nat.le_refl _) (.cells (anL a).toArray 62)
 have A := hide (IsB.new w (anL a).toArray 62)
 have I := hide (X.below b1)
 have KZ : Hid (Kp [b] w (w.alloc (.cells (anL a).toArray 62))) := Kp.of_below b1
 clear b1 X
 have LA := hide (ld_ans A.out)
 have y9 : (w.alloc (.cells (anL a).toArray 62)).cell? ⟨b, 9, none⟩ = some (.int .i64 S.pl) := cl_at I.out
 have pe := ptr_eq ⟨b, 0, none⟩ (w.alloc (.cells (anL a).toArray 62))
 rw [hp] at y9
 clear hp
 go_enter Tryz.func165, Tryz.ntmps165
 go_wp2_with (first | (focus ((with_reducible refine wpList_load_w ?_ 62 (.tmp 3) ?_ ?_ LA.out ?_); rotate_left; rfl; rfl; rotate_left; rfl)))
 refine (endB_any b S a _ I.out).mono ?_
 rintro e' w4 ⟨rfl, I4, K4⟩
 replace KZ := hide (KZ.out.tr K4)
 have I := hide I4
 clear I4 K4 LA y9
 obtain ⟨w5, hs5, I5, k5⟩ := st_at I.out 8
 have HS5 := hide hs5
 have F6 := hide I5
 have K7 := hide (KZ.out.tr k5)
 clear hs5 I5 k5
 go_wp2_with (first | (focus ((with_reducible refine wpList_store_w ?_ 213 (.tmp 46) (.const (.int .i64 8)) ?_ ?_ ?_ HS5.out ?_); rotate_left; rfl; rfl; rfl; rotate_left; rfl)))
 try go_wp2
 refine bodyPost_end (results_none rfl _ _ _) rfl ?_
 exact ⟨rfl, F6.out, K7.out⟩

set_option maxHeartbeats 2000000 in
set_option maxRecDepth 100000 in
theorem tell_8 (b : Nat) (S : Us) (a : An) (hp : S.pl = 8) (w : World) (X : UsAt w b S) : Calls Tryz.prog 165 #[.pointer (some ⟨b, 0, none⟩), .agg (anL a).toArray] w fun e' w' => e' = .returned (.tuple #[]) ∧ UsAt w' b ({ S with pl := S.bh }) ∧ Kp [b] w w' := by
 have b1 := (Below.refl w.heap.size w).alloc (Nat.le_refl _) (.cells (anL a).toArray 62)
 have A := hide (IsB.new w (anL a).toArray 62)
 have I := hide (X.below b1)
 have KZ : Hid (Kp [b] w (w.alloc (.cells (anL a).toArray 62))) := Kp.of_below b1
 clear b1 X
 have LA := hide (ld_ans A.out)
 have y9 : (w.alloc (.cells (anL a).toArray 62)).cell? ⟨b, 9, none⟩ = some (.int .i64 S.pl) := cl_at I.out
 have pe := ptr_eq ⟨b, 0, none⟩ (w.alloc (.cells (anL a).toArray 62))
 rw [hp] at y9
 clear hp
 clear LA
 have y20 : (w.alloc (.cells (anL a).toArray 62)).cell? ⟨b, 20, none⟩ = some (.int .i64 S.bh) := cl_bh I.out
 obtain ⟨w2, hs2, I2, k2⟩ := st_at I.out S.bh
 have HS2 := hide hs2
 have F6 := hide I2
 have K7 := hide (KZ.out.tr k2)
 clear hs2 I2 k2
 go_enter Tryz.func165, Tryz.ntmps165
 go_wp2_with (first | (focus ((with_reducible refine wpList_store_w ?_ 213 (.tmp 53) (.tmp 51) ?_ ?_ ?_ HS2.out ?_); rotate_left; rfl; rfl; rfl; rotate_left; rfl)))
 try go_wp2
 refine bodyPost_end (results_none rfl _ _ _) rfl ?_
 exact ⟨rfl, F6.out, K7.out⟩

set_option maxHeartbeats 2000000 in
set_option maxRecDepth 100000 in
theorem tell_not (b : Nat) (S : Us) (a : An) (hp : S.pl = 9 ∨ S.pl = 10) (w : World) (X : UsAt w b S) : Calls Tryz.prog 165 #[.pointer (some ⟨b, 0, none⟩), .agg (anL a).toArray] w fun e' w' => e' = .returned (.tuple #[]) ∧ UsAt w' b (S) ∧ Kp [b] w w' := by
 have b1 := (Below.refl w.heap.size w).alloc (Nat.le_refl _) (.cells (anL a).toArray 62)
 have A := hide (IsB.new w (anL a).toArray 62)
 have I := hide (X.below b1)
 have KZ : Hid (Kp [b] w (w.alloc (.cells (anL a).toArray 62))) := Kp.of_below b1
 clear b1 X
 have LA := hide (ld_ans A.out)
 have y9 : (w.alloc (.cells (anL a).toArray 62)).cell? ⟨b, 9, none⟩ = some (.int .i64 S.pl) := cl_at I.out
 have pe := ptr_eq ⟨b, 0, none⟩ (w.alloc (.cells (anL a).toArray 62))
 have F6 := I
 have K7 := KZ
 clear LA
 rcases hp with hp | hp
 · rw [hp] at y9
   clear hp
   go_enter Tryz.func165, Tryz.ntmps165
   go_wp2
   refine bodyPost_end (results_none rfl _ _ _) rfl ?_
   exact ⟨rfl, F6.out, K7.out⟩
 · rw [hp] at y9
   clear hp
   go_enter Tryz.func165, Tryz.ntmps165
   go_wp2
   refine bodyPost_end (results_none rfl _ _ _) rfl ?_
   exact ⟨rfl, F6.out, K7.out⟩

/-- Where it can be at. -/
def Us.plok (S : Us) : Prop := 1 ≤ S.pl ∧ S.pl ≤ 10 ∧ (S.bh = 9 ∨ S.bh = 10)
theorem utell_any (b : Nat) (S : Us) (a : An) (ho : S.plok) (w : World) (X : UsAt w b S) : Calls Tryz.prog 165 #[.pointer (some ⟨b, 0, none⟩), .agg (anL a).toArray] w fun e' w' => e' = .returned (.tuple #[]) ∧ UsAt w' b (S.tell a) ∧ Kp [b] w w' := by
 obtain ⟨hl, hr, -⟩ := ho
 unfold Us.tell
 by_cases h1 : S.pl = 1
 · rw [if_pos h1]; exact tell_1 b S a h1 w X
 rw [if_neg h1]
 by_cases h2 : S.pl = 2
 · rw [if_pos h2]; exact tell_2 b S a h2 w X
 rw [if_neg h2]
 by_cases h3 : S.pl = 3
 · rw [if_pos h3]; exact tell_3 b S a h3 w X
 rw [if_neg h3]
 by_cases h4 : S.pl = 4
 · rw [if_pos h4]; exact tell_4 b S a h4 w X
 rw [if_neg h4]
 by_cases h5 : S.pl = 5
 · rw [if_pos h5]; exact tell_5 b S a h5 w X
 rw [if_neg h5]
 by_cases h6 : S.pl = 6
 · rw [if_pos h6]; exact tell_6 b S a h6 w X
 rw [if_neg h6]
 by_cases h7 : S.pl = 7
 · rw [if_pos h7]; exact tell_7 b S a h7 w X
 rw [if_neg h7]
 by_cases h8 : S.pl = 8
 · rw [if_pos h8]; exact tell_8 b S a h8 w X
 rw [if_neg h8]
 exact tell_not b S a (by omega) w X

set_option maxHeartbeats 2000000 in
set_option maxRecDepth 100000 in
theorem wake_yes (b : Nat) (S : Us) (hp : S.pl = 9) (w : World) (X : UsAt w b S) : Calls Tryz.prog 166 #[.pointer (some ⟨b, 0, none⟩)] w fun e' w' => e' = .returned (.tuple #[]) ∧ UsAt w' b ({ S with pl := 1 }) ∧ Kp [b] w w' := by
 have I := hide X
 have y9 : w.cell? ⟨b, 9, none⟩ = some (.int .i64 S.pl) := cl_at X
 have pn := ptr_ne ⟨b, 0, none⟩ w
 rw [hp] at y9
 clear hp X
 have KZ := hide (Kp.refl [b] w)
 obtain ⟨w2, hs2, I2, k2⟩ := st_at I.out 1
 have HS2 := hide hs2
 have F6 := hide I2
 have K7 := hide (KZ.out.tr k2)
 clear hs2 I2 k2
 go_enter Tryz.func166, Tryz.ntmps166
 go_wp2_with (first | (focus ((with_reducible refine wpList_store_w ?_ 213 (.tmp 13) (.const (.int .i64 1)) ?_ ?_ ?_ HS2.out ?_); rotate_left; rfl; rfl; rfl; rotate_left; rfl)))
 try go_wp2
 refine bodyPost_end (results_none rfl _ _ _) rfl ?_
 exact ⟨rfl, F6.out, K7.out⟩

set_option maxHeartbeats 2000000 in
set_option maxRecDepth 100000 in
theorem wake_no (b : Nat) (S : Us) (hp : ¬S.pl = 9) (w : World) (X : UsAt w b S) : Calls Tryz.prog 166 #[.pointer (some ⟨b, 0, none⟩)] w fun e' w' => e' = .returned (.tuple #[]) ∧ UsAt w' b (S) ∧ Kp [b] w w' := by
 have F6 := hide X
 have K7 := hide (Kp.refl [b] w)
 have y9 : w.cell? ⟨b, 9, none⟩ = some (.int .i64 S.pl) := cl_at X
 have pn := ptr_ne ⟨b, 0, none⟩ w
 have e1 : (S.pl == 9) = false := by simpa using hp
 clear hp X
 generalize hg : S.pl = pl at *
 replace hg := hide hg
 go_enter Tryz.func166, Tryz.ntmps166
 try go_wp2
 refine bodyPost_end (results_none rfl _ _ _) rfl ?_
 exact ⟨rfl, F6.out, K7.out⟩

theorem uwake_any (b : Nat) (S : Us) (w : World) (X : UsAt w b S) : Calls Tryz.prog 166 #[.pointer (some ⟨b, 0, none⟩)] w fun e' w' => e' = .returned (.tuple #[]) ∧ UsAt w' b S.wake ∧ Kp [b] w w' := by
 unfold Us.wake
 by_cases hp : S.pl = 9
 · rw [if_pos hp]; exact wake_yes b S hp w X
 · rw [if_neg hp]; exact wake_no b S hp w X

end Go.Proofs.YtokehogcenjefaaGreatDoor
