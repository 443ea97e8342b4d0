/- A removal: stop, end, sought, Marked. -/
import Derived.Test.YtokehogcenjefaaGreatDoorAA
import Derived.Handy
namespace Go.Proofs.YtokehogcenjefaaGreatDoor
open Go.RowKit Go.Maps Go.ChangeMaps

set_option maxHeartbeats 2000000 in
set_option maxRecDepth 100000 in
theorem stop_any (b : Nat) (R : Rm) (h : Value) (k : Int) (w : World) (I : IsB w b (rmL R h).toArray 90) : Calls Tryz.prog 87 #[.pointer (some ⟨b, 0, none⟩), .int .i64 k] w fun e' w' => e' = .returned (.tuple #[]) ∧ IsB w' b (rmL { R with pl := k } .nilIface).toArray 90 ∧ Kp [b] w w' := by
 obtain ⟨w1, hs1, I1, k1⟩ := rs_pl I k
 obtain ⟨w2, hs2, I2, k2⟩ := rs_nil I1
 have HS1 := hide hs1
 have HS2 := hide hs2
 have F := hide (And.intro I2 (k1.tr k2))
 clear hs1 hs2 I1 I2 k1 k2
 go_enter Tryz.func87, Tryz.ntmps87
 go_wp2_with (first | (focus ((with_reducible refine wpList_store_w ?_ 88 (.tmp 8) (.tmp 6) ?_ ?_ ?_ HS1.out ?_); rotate_left; rfl; rfl; rfl; rotate_left; rfl)) | (focus ((with_reducible refine wpList_store_w ?_ 84 (.tmp 10) (.const .nilIface) ?_ ?_ ?_ HS2.out ?_); rotate_left; rfl; rfl; rfl; rotate_left; rfl)))
 refine bodyPost_end (results_none rfl _ _ _) rfl ?_
 exact ⟨rfl, F.out⟩

set_option maxHeartbeats 2000000 in
set_option maxRecDepth 100000 in
theorem rend_any (b : Nat) (R : Rm) (h : Value) (k : Int) (w : World) (I : IsB w b (rmL R h).toArray 90) : Calls Tryz.prog 56 #[.pointer (some ⟨b, 0, none⟩), .int .i64 k] w fun e' w' => e' = .returned (.tuple #[]) ∧ IsB w' b (rmL { R with pl := 4, e := k } .nilIface).toArray 90 ∧ Kp [b] w w' := by
 go_enter Tryz.func56, Tryz.ntmps56
 go_wp2_with fail
 refine (stop_any b R h 4 w I).mono ?_
 rintro e w1 ⟨rfl, I1, k1⟩
 obtain ⟨w2, hs2, I2, k2⟩ := rs_e I1 k
 have HS2 := hide hs2
 have F := hide (And.intro I2 (k1.tr k2))
 clear hs2 I1 I2 k1 k2
 go_wp2_with (first | (focus ((with_reducible refine wpList_store_w ?_ 37 (.tmp 9) (.tmp 7) ?_ ?_ ?_ HS2.out ?_); rotate_left; rfl; rfl; rfl; rotate_left; rfl)))
 refine bodyPost_end (results_none rfl _ _ _) rfl ?_
 exact ⟨rfl, F.out⟩

set_option maxHeartbeats 2000000 in
set_option maxRecDepth 100000 in
theorem sought_err (b : Nat) (R : Rm) (h : Value) (e : Int) (l r : Rf) (f : Bool) (he : e ≠ 0) (w : World) (I : IsB w b (rmL R h).toArray 90) : Calls Tryz.prog 53 #[.pointer (some ⟨b, 0, none⟩), .agg (rsL e l r f).toArray] w fun e' w' => e' = .returned (.tuple #[]) ∧ IsB w' b (rmL { R with pl := 4, e := e } .nilIface).toArray 90 ∧ Kp [b] w w' := by
 have b1 := (Below.refl w.heap.size w).alloc (Nat.le_refl _) (.cells (rsL e l r f).toArray 51)
 have Q := IsB.new w (rsL e l r f).toArray 51
 have I0 := I.below b1
 have K0 : Kp [b] w (w.alloc (.cells (rsL e l r f).toArray 51)) := Kp.of_below b1
 have ce : (w.alloc (.cells (rsL e l r f).toArray 51)).cell? ⟨w.heap.size, 0, none⟩ = some (.int .i64 e) := Q.cell 0
 have cf : (w.alloc (.cells (rsL e l r f).toArray 51)).cell? ⟨w.heap.size, 14, none⟩ = some (.bool f) := Q.cell 14
 have d1 : decide (e = 0) = false := decide_eq_false he
 go_enter Tryz.func53, Tryz.ntmps53
 go_wp2_with fail
 refine (rend_any b R h e _ I0).mono ?_
 rintro e' w2 ⟨rfl, I2, k2⟩
 go_wp2
 refine bodyPost_end (results_none rfl _ _ _) rfl ?_
 exact ⟨rfl, I2, K0.tr k2⟩

set_option maxHeartbeats 2000000 in
set_option maxRecDepth 100000 in
theorem sought_none (b : Nat) (R : Rm) (h : Value) (e : Int) (l r : Rf) (f : Bool) (he : e = 0) (hf : f = false) (w : World) (I : IsB w b (rmL R h).toArray 90) : Calls Tryz.prog 53 #[.pointer (some ⟨b, 0, none⟩), .agg (rsL e l r f).toArray] w fun e' w' => e' = .returned (.tuple #[]) ∧ IsB w' b (rmL { R with pl := 4, e := 101 } .nilIface).toArray 90 ∧ Kp [b] w w' := by
 have b1 := (Below.refl w.heap.size w).alloc (Nat.le_refl _) (.cells (rsL e l r f).toArray 51)
 have Q := IsB.new w (rsL e l r f).toArray 51
 have I0 := I.below b1
 have K0 : Kp [b] w (w.alloc (.cells (rsL e l r f).toArray 51)) := Kp.of_below b1
 have ce : (w.alloc (.cells (rsL e l r f).toArray 51)).cell? ⟨w.heap.size, 0, none⟩ = some (.int .i64 e) := Q.cell 0
 have cf : (w.alloc (.cells (rsL e l r f).toArray 51)).cell? ⟨w.heap.size, 14, none⟩ = some (.bool f) := Q.cell 14
 subst he hf
 go_enter Tryz.func53, Tryz.ntmps53
 go_wp2_with fail
 refine (rend_any b R h 101 _ I0).mono ?_
 rintro e' w2 ⟨rfl, I2, k2⟩
 go_wp2
 refine bodyPost_end (results_none rfl _ _ _) rfl ?_
 exact ⟨rfl, I2, K0.tr k2⟩

set_option maxHeartbeats 2000000 in
set_option maxRecDepth 100000 in
theorem sought_found (b : Nat) (R : Rm) (h : Value) (e : Int) (l r : Rf) (f : Bool) (he : e = 0) (hf : f = true) (w : World) (I : IsB w b (rmL R h).toArray 90) : Calls Tryz.prog 53 #[.pointer (some ⟨b, 0, none⟩), .agg (rsL e l r f).toArray] w fun e' w' => e' = .returned (.tuple #[]) ∧ IsB w' b (rmL { R with pl := 2, x := r } .nilIface).toArray 90 ∧ Kp [b] w w' := by
 have b1 := (Below.refl w.heap.size w).alloc (Nat.le_refl _) (.cells (rsL e l r f).toArray 51)
 have Q := IsB.new w (rsL e l r f).toArray 51
 have I0 := I.below b1
 have K0 : Kp [b] w (w.alloc (.cells (rsL e l r f).toArray 51)) := Kp.of_below b1
 have ce : (w.alloc (.cells (rsL e l r f).toArray 51)).cell? ⟨w.heap.size, 0, none⟩ = some (.int .i64 e) := Q.cell 0
 have cf : (w.alloc (.cells (rsL e l r f).toArray 51)).cell? ⟨w.heap.size, 14, none⟩ = some (.bool f) := Q.cell 14
 subst he hf
 go_enter Tryz.func53, Tryz.ntmps53
 go_wp2_with fail
 refine (stop_any b R h 2 _ I0).mono ?_
 rintro e' w2 ⟨rfl, I2, k2⟩
 have hne : w.heap.size ∉ [b] := by have := I.lt; simp; omega
 have Q2 := Q.kp k2 hne
 have LR : Hid ((Instr.loadAt 29 (.pointer (some ⟨w.heap.size, 9, none⟩))).run Tryz.prog w2 = .ok (.agg r.cells) w2) := load_mid Q2 9 _ r.cs _ rfl Tryz.underlying29 rfl (by kernel_rfl)
 obtain ⟨w3, hs3, I3, k3⟩ := rs_x I2 r
 have HS3 := hide hs3
 have F := hide (And.intro I3 (K0.tr (k2.tr k3)))
 clear hs3 I3 k3 I2 k2 Q2 K0
 go_wp2_with (first | (focus ((with_reducible refine wpList_load_w ?_ 29 (.tmp 7) ?_ ?_ LR.out ?_); rotate_left; rfl; rfl; rotate_left; rfl)) | (focus ((with_reducible refine wpList_store_w ?_ 29 (.tmp 10) (.tmp 8) ?_ ?_ ?_ HS3.out ?_); rotate_left; rfl; rfl; rfl; rotate_left; rfl)))
 refine bodyPost_end (results_none rfl _ _ _) rfl ?_
 exact ⟨rfl, F.out⟩

/-- What is to be done with a search's result. -/
def Rm.sought (R : Rm) (e : Int) (r : Rf) (f : Bool) : Rm := if e ≠ 0 then { R with pl := 4, e := e } else if f = false then { R with pl := 4, e := 101 } else { R with pl := 2, x := r }

set_option maxHeartbeats 2000000 in
set_option maxRecDepth 100000 in
theorem sought_any (b : Nat) (R : Rm) (h : Value) (e : Int) (l r : Rf) (f : Bool) (w : World) (I : IsB w b (rmL R h).toArray 90) : Calls Tryz.prog 53 #[.pointer (some ⟨b, 0, none⟩), .agg (rsL e l r f).toArray] w fun e' w' => e' = .returned (.tuple #[]) ∧ IsB w' b (rmL (R.sought e r f) .nilIface).toArray 90 ∧ Kp [b] w w' := by
 unfold Rm.sought
 by_cases he : e ≠ 0
 · rw [if_pos he]
   exact sought_err b R h e l r f he w I
 rw [if_neg he]
 cases f
 · rw [if_pos rfl]
   exact sought_none b R h e l r false (Decidable.not_not.1 he) rfl w I
 · rw [if_neg (by decide)]
   exact sought_found b R h e l r true (Decidable.not_not.1 he) rfl w I

set_option maxHeartbeats 2000000 in
set_option maxRecDepth 100000 in
theorem marked_any (b : Nat) (R : Rm) (h : Value) (w : World) (I : IsB w b (rmL R h).toArray 90) : Calls Tryz.prog 11 #[.pointer (some ⟨b, 0, none⟩)] w fun e' w' => e' = .returned (.bool R.md) ∧ w' = w := by
 have c9 := rc_mk I
 go_enter Tryz.func11, Tryz.ntmps11
 go_wp2
 go_ret
 exact ⟨rfl, rfl⟩

set_option maxHeartbeats 2000000 in
set_option maxRecDepth 100000 in
theorem marked_nil (w : World) : Calls Tryz.prog 11 #[.pointer none] w fun e' w' => e' = .returned (.bool false) ∧ w' = w := by
 go_enter Tryz.func11, Tryz.ntmps11
 go_wp2
 go_ret
 exact ⟨rfl, rfl⟩

end Go.Proofs.YtokehogcenjefaaGreatDoor
