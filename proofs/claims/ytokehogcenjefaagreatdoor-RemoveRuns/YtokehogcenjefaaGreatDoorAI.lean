/- A removal that leaves lists: goOn, Next, Tell, Wake. -/
import Derived.Test.YtokehogcenjefaaGreatDoorAH
namespace Go.Proofs.YtokehogcenjefaaGreatDoor
open Go.RowKit Go.Maps Go.ChangeMaps

/-- How a removal stands behind its unsplice's turn. -/
def Rm.wentU (R : Rm) (U : Us) : Rm := if U.pl = 10 then R.left U.e else R
theorem neifu (u : Nat) (w : World) : (binOp .neq 84 (.iface 197 (.pointer (some ⟨u, 0, none⟩))) .nilIface).run Tryz.prog w = .ok (.bool true) w := by kernel_rfl
theorem one_stL (k : Int) (r : Rf) (q x y : Int) (r1 r2 : Rf) (oa oo e : Int) (l r3 : Rf) : (stL k r q x y r1 r2 oa oo e l r3).toArray.all (·.oneCell') = true := by kernel_rfl
theorem one_stL' (k : Int) (r : Rf) (q x y : Int) (r1 r2 : Rf) (oa oo e : Int) (l r3 : Rf) : (stL k r q x y r1 r2 oa oo e l r3).all (·.oneCell') = true := by kernel_rfl
theorem Us.step_is (S : Us) (g1 : 1 ≤ S.pl) (g2 : S.pl ≤ 10) : ∃ k r q x y r1 r2 oa oo e l r3, S.step = stL k r q x y r1 r2 oa oo e l r3 ∧ (k = 3 ↔ S.pl = 10) ∧ (S.pl = 10 → e = S.e) := by
 unfold Us.step
 by_cases h1 : S.pl = 1
 · rw [if_pos h1]; exact ⟨_, _, _, _, _, _, _, _, _, _, _, _, rfl, by omega, fun h => by omega⟩
 rw [if_neg h1]
 by_cases h2 : S.pl = 2
 · rw [if_pos h2]; exact ⟨_, _, _, _, _, _, _, _, _, _, _, _, rfl, by omega, fun h => by omega⟩
 rw [if_neg h2]
 by_cases h3 : S.pl = 3
 · rw [if_pos h3]; exact ⟨_, _, _, _, _, _, _, _, _, _, _, _, rfl, by omega, fun h => by omega⟩
 rw [if_neg h3]
 by_cases h4 : S.pl = 4
 · rw [if_pos h4]; exact ⟨_, _, _, _, _, _, _, _, _, _, _, _, rfl, by omega, fun h => by omega⟩
 rw [if_neg h4]
 by_cases h5 : S.pl = 5
 · rw [if_pos h5]; exact ⟨_, _, _, _, _, _, _, _, _, _, _, _, rfl, by omega, fun h => by omega⟩
 rw [if_neg h5]
 by_cases h6 : S.pl = 6
 · rw [if_pos h6]; exact ⟨_, _, _, _, _, _, _, _, _, _, _, _, rfl, by omega, fun h => by omega⟩
 rw [if_neg h6]
 by_cases h7 : S.pl = 7
 · rw [if_pos h7]; exact ⟨_, _, _, _, _, _, _, _, _, _, _, _, rfl, by omega, fun h => by omega⟩
 rw [if_neg h7]
 by_cases h8 : S.pl = 8
 · rw [if_pos h8]; exact ⟨_, _, _, _, _, _, _, _, _, _, _, _, rfl, by omega, fun h => by omega⟩
 rw [if_neg h8]
 by_cases h9 : S.pl = 9
 · rw [if_pos h9]; exact ⟨_, _, _, _, _, _, _, _, _, _, _, _, rfl, by omega, fun h => by omega⟩
 rw [if_neg h9]
 exact ⟨_, _, _, _, _, _, _, _, _, _, _, _, rfl, by omega, fun _ => rfl⟩
theorem Us.step_len (S : Us) (g1 : 1 ≤ S.pl) (g2 : S.pl ≤ 10) : S.step.length = 36 := by obtain ⟨_, _, _, _, _, _, _, _, _, _, _, _, h, -⟩ := S.step_is g1 g2; rw [h]; rfl
theorem Us.step_one (S : Us) (g1 : 1 ≤ S.pl) (g2 : S.pl ≤ 10) : ∀ v ∈ S.step, v.oneCell' = true := by
 obtain ⟨_, _, _, _, _, _, _, _, _, _, _, _, h, -⟩ := S.step_is g1 g2
 rw [h]
 exact List.all_eq_true.1 (one_stL' _ _ _ _ _ _ _ _ _ _ _ _)

set_option maxHeartbeats 2000000 in
set_option maxRecDepth 100000 in
theorem goOnU_over (b u : Nat) (R : Rm) (U : Us) (hov : U.pl = 10) (hp : R.pl = 3) (hx : 0 ≤ R.x.bt) (hrt : rt R.ll R.lb = true) (hlb : 0 ≤ R.lb) (w : World) (I : IsB w b (rmL R (.iface 197 (.pointer (some ⟨u, 0, none⟩)))).toArray 90) (X : UsAt w u U) : Calls Tryz.prog 32 #[.pointer (some ⟨b, 0, none⟩)] w fun e' w' => ∃ u', e' = .returned (.tuple #[]) ∧ IsB w' b (rmL (R.left U.e) (handU (R.left U.e) u')).toArray 90 ∧ ((R.left U.e).pl = 3 → UsAt w' u' (unewS (R.ll - 1) ((pre R.ll.toNat R.lb.toNat (R.ll - 1).toNat : Nat) : Int) R.x R.oa R.oo)) ∧ (u' = u ∨ w.heap.size ≤ u') ∧ Kp [b] w w' := by
 have c3 := rc_h I
 go_enter Tryz.func32, Tryz.ntmps32
 go_wp2_with fail
 refine (next_10 u U hov w X).mono ?_
 rintro e1 w1 ⟨rfl, hb⟩
 clear c3
 have SS := hide (store_step w1 (stL 3 zr 0 0 0 zr zr 0 0 U.e zr zr).toArray rfl (one_stL _ _ _ _ _ _ _ _ _ _ _ _))
 have hA := gb1 w1 (.cells (stL 3 zr 0 0 0 zr zr 0 0 U.e zr zr).toArray 53)
 have Q1 := IsB.new w1 (stL 3 zr 0 0 0 zr zr 0 0 U.e zr zr).toArray 53
 have I1 := (I.below hb).below hA
 have X1 : UsAt (w1.alloc (.cells (stL 3 zr 0 0 0 zr zr 0 0 U.e zr zr).toArray 53)) u U := UsAt.bel (UsAt.bel X hb) hA
 have K1 : Kp [b] w (w1.alloc (.cells (stL 3 zr 0 0 0 zr zr 0 0 U.e zr zr).toArray 53)) := Kp.of_below (hb.trans (hA.mono hb.size))
 have c0 : (w1.alloc (.cells (stL 3 zr 0 0 0 zr zr 0 0 U.e zr zr).toArray 53)).cell? ⟨w1.heap.size, 0, none⟩ = some (.int .i64 3) := Q1.cell 0
 have c21 : (w1.alloc (.cells (stL 3 zr 0 0 0 zr zr 0 0 U.e zr zr).toArray 53)).cell? ⟨w1.heap.size, 21, none⟩ = some (.int .i64 U.e) := Q1.cell 21
 have c2 := rc_pl I1
 rw [hp] at c2
 go_wp2_with (first | (focus ((with_reducible refine wpList_store_w ?_ 53 (.tmp 2) (.tmp 7) ?_ ?_ ?_ SS.out ?_); rotate_left; rfl; rfl; rfl; rotate_left; rfl)))
 refine (rleft_any b R (.iface 197 (.pointer (some ⟨u, 0, none⟩))) U.e hx hrt hlb _ I1).mono ?_
 rintro e2 w2 ⟨u', rfl, I2, X2, hu, k2⟩
 have hu2 : w.heap.size ≤ u' := Nat.le_trans K1.size hu
 have K2 := K1.tr k2
 go_wp2
 refine bodyPost_end (results_none rfl _ _ _) rfl ?_
 first | exact ⟨u', rfl, I2, X2, Or.inr hu2, K2⟩ | exact ⟨rfl, u', I2, X2, Or.inr hu2, K2⟩

set_option maxHeartbeats 2000000 in
set_option maxRecDepth 100000 in
theorem goOnU_not (b u : Nat) (R : Rm) (U : Us) (hpl : U.plok) (hov : ¬U.pl = 10) (w : World) (I : IsB w b (rmL R (.iface 197 (.pointer (some ⟨u, 0, none⟩)))).toArray 90) (X : UsAt w u U) : Calls Tryz.prog 32 #[.pointer (some ⟨b, 0, none⟩)] w fun e' w' => ∃ u', e' = .returned (.tuple #[]) ∧ IsB w' b (rmL R (.iface 197 (.pointer (some ⟨u', 0, none⟩)))).toArray 90 ∧ (R.pl = 3 → UsAt w' u' U) ∧ (u' = u ∨ w.heap.size ≤ u') ∧ Kp [b] w w' := by
 have c3 := rc_h I
 go_enter Tryz.func32, Tryz.ntmps32
 go_wp2_with fail
 have NX := unext_any u U hpl.1 hpl.2.1 w X
 obtain ⟨k, r, q, x, y, r1, r2, oa, oo, e, l, r3, hst, hk3, -⟩ := U.step_is hpl.1 hpl.2.1
 rw [hst] at NX
 have hk : k ≠ 3 := fun h => hov (hk3.1 h)
 have dk : decide (k = 3) = false := decide_eq_false hk
 clear hk3 hst
 refine NX.mono ?_
 rintro e1 w1 ⟨rfl, hb⟩
 clear NX c3
 have SS := hide (store_step w1 (stL k r q x y r1 r2 oa oo e l r3).toArray rfl (one_stL _ _ _ _ _ _ _ _ _ _ _ _))
 have hA := gb1 w1 (.cells (stL k r q x y r1 r2 oa oo e l r3).toArray 53)
 have Q1 := IsB.new w1 (stL k r q x y r1 r2 oa oo e l r3).toArray 53
 have I1 := (I.below hb).below hA
 have X1 : UsAt (w1.alloc (.cells (stL k r q x y r1 r2 oa oo e l r3).toArray 53)) u U := UsAt.bel (UsAt.bel X hb) hA
 have K1 : Kp [b] w (w1.alloc (.cells (stL k r q x y r1 r2 oa oo e l r3).toArray 53)) := Kp.of_below (hb.trans (hA.mono hb.size))
 have c0 : (w1.alloc (.cells (stL k r q x y r1 r2 oa oo e l r3).toArray 53)).cell? ⟨w1.heap.size, 0, none⟩ = some (.int .i64 k) := Q1.cell 0
 go_wp2_with (first | (focus ((with_reducible refine wpList_store_w ?_ 53 (.tmp 2) (.tmp 7) ?_ ?_ ?_ SS.out ?_); rotate_left; rfl; rfl; rfl; rotate_left; rfl)))
 refine bodyPost_end (results_none rfl _ _ _) rfl ?_
 first | exact ⟨u, rfl, I1, fun _ => X1, Or.inl rfl, K1⟩ | exact ⟨rfl, u, I1, fun _ => X1, Or.inl rfl, K1⟩

set_option maxHeartbeats 2000000 in
set_option maxRecDepth 100000 in
theorem goOnU_any (b u : Nat) (R : Rm) (U : Us) (hpl : U.plok) (hp : R.pl = 3) (hx : 0 ≤ R.x.bt) (hrt : rt R.ll R.lb = true) (hlb : 0 ≤ R.lb) (w : World) (I : IsB w b (rmL R (.iface 197 (.pointer (some ⟨u, 0, none⟩)))).toArray 90) (X : UsAt w u U) : Calls Tryz.prog 32 #[.pointer (some ⟨b, 0, none⟩)] w fun e' w' => ∃ u', e' = .returned (.tuple #[]) ∧ IsB w' b (rmL (R.wentU U) (handU (R.wentU U) u')).toArray 90 ∧ ((R.wentU U).pl = 3 → UsAt w' u' (R.nextU U)) ∧ (u' = u ∨ w.heap.size ≤ u') ∧ Kp [b] w w' := by
 unfold Rm.wentU Rm.nextU
 by_cases hov : U.pl = 10
 · rw [if_pos hov, if_pos hov]
   exact goOnU_over b u R U hov hp hx hrt hlb w I X
 · rw [if_neg hov, if_neg hov]
   refine (goOnU_not b u R U hpl hov w I X).mono ?_
   rintro e1 w1 ⟨u', h1, h2, h3, h4, h5⟩
   exact ⟨u', h1, by unfold handU; rw [if_pos hp]; exact h2, h3, h4, h5⟩

set_option maxHeartbeats 2000000 in
set_option maxRecDepth 100000 in
theorem rnext_lists (b u : Nat) (R : Rm) (U : Us) (hpl : U.plok) (hp : R.pl = 3) (w : World) (I : IsB w b (rmL R (.iface 197 (.pointer (some ⟨u, 0, none⟩)))).toArray 90) (X : UsAt w u U) : Calls Tryz.prog 9 #[.pointer (some ⟨b, 0, none⟩)] w fun e' w' => e' = .returned (.agg U.step.toArray) ∧ Below w.heap.size w w' := by
 have b1 := gb1 w (.cells #[.int .i64 0, .int .i64 0, .int .i64 0, .int .u64 0, .int .i64 0, .int .u64 0, .int .i64 0, .int .i64 0, .int .u64 0, .int .i64 0, .int .i64 0, .int .u64 0, .int .i64 0, .int .u64 0, .int .i64 0, .int .i64 0, .int .u64 0, .int .i64 0, .int .u64 0, .int .i64 0, .int .i64 0, .int .i64 0, .int .u64 0, .slice none 0 0, .slice none 0 0, .int .i64 0, .int .i64 0, .int .u64 0, .int .i64 0, .int .u64 0, .int .i64 0, .int .i64 0, .int .u64 0, .int .i64 0, .int .u64 0, .bool false] 53)
 have I1 := I.below b1
 have X1 : UsAt _ u U := UsAt.bel X b1
 have Z1 := IsB.new w #[.int .i64 0, .int .i64 0, .int .i64 0, .int .u64 0, .int .i64 0, .int .u64 0, .int .i64 0, .int .i64 0, .int .u64 0, .int .i64 0, .int .i64 0, .int .u64 0, .int .i64 0, .int .u64 0, .int .i64 0, .int .i64 0, .int .u64 0, .int .i64 0, .int .u64 0, .int .i64 0, .int .i64 0, .int .i64 0, .int .u64 0, .slice none 0 0, .slice none 0 0, .int .i64 0, .int .i64 0, .int .u64 0, .int .i64 0, .int .u64 0, .int .i64 0, .int .i64 0, .int .u64 0, .int .i64 0, .int .u64 0, .bool false] 53
 have c2 := rc_pl I1
 rw [hp] at c2
 have c3 := rc_h I1
 go_enter Tryz.func9, Tryz.ntmps9
 go_wp2_with fail
 refine (unext_any u U hpl.1 hpl.2.1 _ X1).mono ?_
 rintro e1 w1 ⟨rfl, hb⟩
 have Z2 := Z1.below hb
 obtain ⟨cs, hcs, h36, hone⟩ : ∃ cs : List Value, U.step = cs ∧ cs.length = 36 ∧ ∀ v ∈ cs, v.oneCell' = true := ⟨U.step, rfl, U.step_len hpl.1 hpl.2.1, U.step_one hpl.1 hpl.2.1⟩
 rw [hcs]
 obtain ⟨w2, hs2, I2, k2⟩ := store_all Z2 rfl cs h36 hone
 have HS2 := hide hs2
 have F : Hid (IsB w2 w.heap.size cs.toArray 53 ∧ Below w.heap.size w w2) := ⟨I2, (b1.trans (hb.mono b1.size)).trans (k2.to_below (Nat.le_trans b1.size hb.size) (by simp))⟩
 clear hs2 I2 k2 Z2 Z1 hb b1 hone
 go_wp2_with (first | (focus ((with_reducible refine wpList_store_w ?_ 53 (.tmp 2) (.tmp 17) ?_ ?_ ?_ HS2.out ?_); rotate_left; rfl; rfl; rfl; rotate_left; rfl)))
 refine ret_step (p := 2) Tryz.results9 (by simpa using h36) rfl F.out.1 ?_
 exact ⟨by rw [hcs], F.out.2⟩

set_option maxHeartbeats 2000000 in
set_option maxRecDepth 100000 in
theorem rwake_lists (b u : Nat) (R : Rm) (U : Us) (w : World) (I : IsB w b (rmL R (.iface 197 (.pointer (some ⟨u, 0, none⟩)))).toArray 90) (X : UsAt w u U) : Calls Tryz.prog 14 #[.pointer (some ⟨b, 0, none⟩)] w fun e' w' => e' = .returned (.tuple #[]) ∧ IsB w' b (rmL R (.iface 197 (.pointer (some ⟨u, 0, none⟩)))).toArray 90 ∧ UsAt w' u U.wake ∧ Kp [u] w w' := by
 have hbu : b ≠ u := IsB.ne_t I X (by decide)
 have c3 := rc_h I
 have nn := neifu u w
 go_enter Tryz.func14, Tryz.ntmps14
 go_wp2_with fail
 refine (uwake_any u U w X).mono ?_
 rintro e1 w1 ⟨rfl, X1, k1⟩
 have I1 := I.kp k1 (by simpa using hbu)
 go_wp2
 refine bodyPost_end (results_none rfl _ _ _) rfl ?_
 exact ⟨rfl, I1, X1, k1⟩

set_option maxHeartbeats 4000000 in
set_option maxRecDepth 100000 in
theorem rtell_lists (b u : Nat) (R : Rm) (U : Us) (a : An) (hpl : U.plok) (hpt : (U.tell a).plok) (hp : R.pl = 3) (hx : 0 ≤ R.x.bt) (hrt : rt R.ll R.lb = true) (hlb : 0 ≤ R.lb) (w : World) (I : IsB w b (rmL R (.iface 197 (.pointer (some ⟨u, 0, none⟩)))).toArray 90) (X : UsAt w u U) : Calls Tryz.prog 12 #[.pointer (some ⟨b, 0, none⟩), .agg (anL a).toArray] w fun e' w' => ∃ u', e' = .returned (.tuple #[]) ∧ IsB w' b (rmL (R.wentU (U.tell a)) (handU (R.wentU (U.tell a)) u')).toArray 90 ∧ ((R.wentU (U.tell a)).pl = 3 → UsAt w' u' (R.nextU (U.tell a))) ∧ (u' = u ∨ w.heap.size ≤ u') ∧ Kp [b, u] w w' := by
 have mixed : Tryz.prog.follows .mixedOrders = true := by kernel_rfl
 have hbu : b ≠ u := IsB.ne_t I X (by decide)
 have b1 := gb1 w (.cells (anL a).toArray 62)
 have I1 := I.below b1
 have X1 : UsAt _ u U := UsAt.bel X b1
 have Q1 := IsB.new w (anL a).toArray 62
 have c2 := rc_pl I1
 rw [hp] at c2
 have K0 : Hid (Kp [b, u] w (w.alloc (.cells (anL a).toArray 62))) := Kp.of_below b1
 go_enter Tryz.func12, Tryz.ntmps12
 go_wp2_with fail
 have dr := (Below.refl (w.alloc (.cells (anL a).toArray 62)).heap.size (w.alloc (.cells (anL a).toArray 62))).drew
 have I2 := hide (I1.below dr)
 have Q2 := hide (Q1.below dr)
 have X2 := hide (UsAt.bel X1 dr)
 have K1 := hide (K0.out.drew)
 clear dr I1 Q1 X1 b1 c2 K0 I X
 obtain ⟨A, hA⟩ : ∃ A, w.heap.size = A := ⟨_, rfl⟩
 rw [hA] at Q2 ⊢
 refine regionL 5 (fun w' => IsB w' b (rmL R (.iface 197 (.pointer (some ⟨u, 0, none⟩)))).toArray 90 ∧ IsB w' A (anL a).toArray 62) mixed ⟨I2.out, Q2.out⟩ (fun hHeld => ?_)
 generalize (w.alloc (.cells (anL a).toArray 62)).drew = WD at *
 refine pkA (v := ?_) 0 (some 13) rfl rfl ?_ (by assumption) ?_
 rotate_left
 · intro w'
   go_simp
   try with_reducible rfl
 try simp only [Act.put, zqa, zqb, zqc]
 refine pkA (v := ?_) 1 (some 14) rfl rfl ?_ (by assumption) ?_
 rotate_left
 · intro w'
   go_simp
   try with_reducible rfl
 try simp only [Act.put, zqa, zqb, zqc]
 refine pkA (v := ?_) 2 (some 15) rfl rfl ?_ (by assumption) ?_
 rotate_left
 · intro w'
   go_simp
   try with_reducible rfl
 try simp only [Act.put, zqa, zqb, zqc]
 refine pkT (v := .iface 197 (.pointer (some ⟨u, 0, none⟩))) 3 (some 16) rfl rfl ?_ (by assumption) ?_
 · intro w' hSw
   obtain ⟨q0, q1⟩ := hSw
   have yy : w'.cell? ⟨b, 3, none⟩ = some (.iface 197 (.pointer (some ⟨u, 0, none⟩))) := rc_h q0
   go_simp
 try simp only [Act.put, zqa, zqb, zqc]
 refine pkT (v := .agg (anL a).toArray) 4 (some 17) rfl rfl ?_ (by assumption) ?_
 · intro w' hSw
   obtain ⟨q0, q1⟩ := hSw
   exact exec_load rfl rfl (ld_ans q1)
 try simp only [Act.put, zqa, zqb, zqc]
 refine lateL (i := 5) (by kernel_rfl) rfl (by decide) (by kernel_rfl) (fun K hK => ?_)
 go_simp
 try go_invoke
 try go_simp
 refine (utell_any u U a hpl WD X2.out).mono ?_
 rintro e1 w3 ⟨rfl, X3', K3'⟩
 have X3 := hide X3'
 have K3 := hide K3'
 clear X3' K3'
 refine hK.out _ _ ?_
 clear hK K
 try simp only [Act.put, zqa, zqb, zqc]
 refine doneL (by kernel_rfl) ?_ _
 clear hHeld
 have I3 := I2.out.kp K3.out (by simpa using hbu)
 clear I2 Q2 X2
 go_wp2_with fail
 refine (goOnU_any b u R (U.tell a) hpt hp hx hrt hlb w3 I3 X3.out).mono ?_
 rintro e2 w4 ⟨u', rfl, I4, X4, hu, K4⟩
 have hsz := (K1.out.tr (K3.out.mono (fun j hj => Or.inl (by simp at hj ⊢; omega)))).size
 have KF : Kp [b, u] w w4 := (K1.out.tr (K3.out.mono (fun j hj => Or.inl (by simp at hj ⊢; omega)))).tr (K4.mono (fun j hj => Or.inl (by simp at hj ⊢; omega)))
 go_wp2
 refine bodyPost_end (results_none rfl _ _ _) rfl ?_
 first | exact ⟨u', rfl, I4, X4, hu.imp id (fun h => by omega), KF⟩ | exact ⟨rfl, u', I4, X4, hu.imp id (fun h => by omega), KF⟩

set_option maxHeartbeats 2000000 in
set_option maxRecDepth 100000 in
theorem rtell_mark (b : Nat) (R : Rm) (a : An) (hp : R.pl = 2) (hx : 0 ≤ R.x.bt) (w : World) (I : IsB w b (rmL R .nilIface).toArray 90) : Calls Tryz.prog 12 #[.pointer (some ⟨b, 0, none⟩), .agg (anL a).toArray] w fun e' w' => ∃ u, e' = .returned (.tuple #[]) ∧ IsB w' b (rmL (R.hear a.k) (handU (R.hear a.k) u)).toArray 90 ∧ ((R.hear a.k).pl = 3 → UsAt w' u (unewS R.x.ln R.x.bt R.x R.oa R.oo)) ∧ w.heap.size ≤ u ∧ Kp [b] w w' := by
 have b1 := gb1 w (.cells (anL a).toArray 62)
 have I1 := I.below b1
 have Q1 := IsB.new w (anL a).toArray 62
 have K1 : Kp [b] w (w.alloc (.cells (anL a).toArray 62)) := Kp.of_below b1
 have c2 := rc_pl I1
 rw [hp] at c2
 have LA := hide (ld_ans Q1)
 clear Q1
 go_enter Tryz.func12, Tryz.ntmps12
 go_wp2_with (first | (focus ((with_reducible refine wpList_load_w ?_ 62 (.tmp 3) ?_ ?_ LA.out ?_); rotate_left; rfl; rfl; rotate_left; rfl)))
 refine (hear_any b R a hx _ I1).mono ?_
 rintro e1 w2 ⟨u, rfl, I2, X2, hu, k2⟩
 have hu2 : w.heap.size ≤ u := Nat.le_trans K1.size hu
 have K2 := K1.tr k2
 go_wp2
 refine bodyPost_end (results_none rfl _ _ _) rfl ?_
 first | exact ⟨u, rfl, I2, X2, hu2, K2⟩ | exact ⟨rfl, u, I2, X2, hu2, K2⟩

end Go.Proofs.YtokehogcenjefaaGreatDoor
