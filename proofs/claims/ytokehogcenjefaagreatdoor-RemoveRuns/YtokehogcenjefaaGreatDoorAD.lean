/- A removal: Wake, Tell; search, New. -/
import Derived.Test.YtokehogcenjefaaGreatDoorAC
namespace Go.Proofs.YtokehogcenjefaaGreatDoor
open Go.RowKit Go.Maps Go.ChangeMaps

set_option maxHeartbeats 2000000 in
set_option maxRecDepth 100000 in
theorem rwake_nil (w : World) : Calls Tryz.prog 14 #[.pointer none] w fun e' w' => e' = .returned (.tuple #[]) ∧ w' = w := by
 go_enter Tryz.func14, Tryz.ntmps14
 go_wp2
 refine bodyPost_end (results_none rfl _ _ _) rfl ?_
 exact ⟨rfl, rfl⟩

theorem nnif (w : World) : (binOp .neq 84 .nilIface .nilIface).run Tryz.prog w = .ok (.bool false) w := by kernel_rfl

set_option maxHeartbeats 2000000 in
set_option maxRecDepth 100000 in
theorem rwake_none (b : Nat) (R : Rm) (w : World) (I : IsB w b (rmL R .nilIface).toArray 90) : Calls Tryz.prog 14 #[.pointer (some ⟨b, 0, none⟩)] w fun e' w' => e' = .returned (.tuple #[]) ∧ w' = w := by
 have c3 := rc_h I
 have nn := nnif w
 go_enter Tryz.func14, Tryz.ntmps14
 go_wp2
 refine bodyPost_end (results_none rfl _ _ _) rfl ?_
 exact ⟨rfl, rfl⟩

set_option maxHeartbeats 2000000 in
set_option maxRecDepth 100000 in
theorem rwake_search (b s : Nat) (R : Rm) (w : World) (I : IsB w b (rmL R (.iface 133 (.pointer (some ⟨s, 0, none⟩)))).toArray 90) : Calls Tryz.prog 14 #[.pointer (some ⟨b, 0, none⟩)] w fun e' w' => e' = .returned (.tuple #[]) ∧ w' = w := by
 have c3 := rc_h I
 have nn := neif s w
 go_enter Tryz.func14, Tryz.ntmps14
 go_wp2_with fail
 refine (wake_any _ w).mono ?_
 rintro e1 w1 ⟨rfl, hw⟩
 rw [hw]
 go_wp2
 refine bodyPost_end (results_none rfl _ _ _) rfl ?_
 exact ⟨rfl, rfl⟩

set_option maxHeartbeats 2000000 in
set_option maxRecDepth 100000 in
theorem rtell_nil (a : An) (w : World) : Calls Tryz.prog 12 #[.pointer none, .agg (anL a).toArray] w fun e' w' => e' = .returned (.tuple #[]) ∧ Below w.heap.size w w' := by
 have b1 := gb1 w (.cells (anL a).toArray 62)
 go_enter Tryz.func12, Tryz.ntmps12
 go_wp2
 refine bodyPost_ret (results_none rfl _ _ _) rfl ?_
 exact ⟨rfl, b1⟩

set_option maxHeartbeats 2000000 in
set_option maxRecDepth 100000 in
theorem rtell_idle (b : Nat) (R : Rm) (h : Value) (a : An) (hp : R.pl = 0 ∨ R.pl = 4) (w : World) (I : IsB w b (rmL R h).toArray 90) : Calls Tryz.prog 12 #[.pointer (some ⟨b, 0, none⟩), .agg (anL a).toArray] w fun e' w' => e' = .returned (.tuple #[]) ∧ Below w.heap.size w w' := by
 have b1 := gb1 w (.cells (anL a).toArray 62)
 have I1 := I.below b1
 have c2 := rc_pl I1
 rcases hp with hp | hp
 all_goals
   rw [hp] at c2
   go_enter Tryz.func12, Tryz.ntmps12
   go_wp2
   refine bodyPost_end (results_none rfl _ _ _) rfl ?_
   exact ⟨rfl, b1⟩

set_option maxHeartbeats 4000000 in
set_option maxRecDepth 100000 in
theorem rtell_search (b s m : Nat) (R : Rm) (S : Sk) (ws : List (Pl × Rf)) (a : An) (ho : SOk S ws) (ha : AOk a) (hbs : b ≠ s ∧ b ≠ m) (hp : R.pl = 1) (w : World) (hR : Ranks w) (I : IsB w b (rmL R (.iface 133 (.pointer (some ⟨s, 0, none⟩)))).toArray 90) (X : SkAt w s m S ws) : Calls Tryz.prog 12 #[.pointer (some ⟨b, 0, none⟩), .agg (anL a).toArray] w fun e' w' => e' = .returned (.tuple #[]) ∧ IsB w' b (rmL (R.went (S.tell ws a).1) (handOf (S.tell ws a).1 s)).toArray 90 ∧ SkAt w' s m (S.tell ws a).1 (S.tell ws a).2 ∧ Kp [b, s, m] w w' := by
 have mixed : Tryz.prog.follows .mixedOrders = true := by kernel_rfl
 have b1 := gb1 w (.cells (anL a).toArray 62)
 have I1 := I.below b1
 have X1 := X.below b1
 have R1 := hR.below b1
 have Q1 := IsB.new w (anL a).toArray 62
 have c2 := rc_pl I1
 rw [hp] at c2
 have K0 : Hid (Kp [b, s, m] w (w.alloc (.cells (anL a).toArray 62))) := Kp.of_below b1
 go_enter Tryz.func12, Tryz.ntmps12
 go_wp2_with fail
 have dr := (Below.refl (w.alloc (.cells (anL a).toArray 62)).heap.size (w.alloc (.cells (anL a).toArray 62))).drew
 have I2 := hide (I1.below dr)
 have Q2 := hide (Q1.below dr)
 have X2 := hide (X1.below dr)
 have HR := hide (R1.below dr)
 have K1 := hide (K0.out.drew)
 clear dr I1 Q1 X1 R1 b1 c2 K0 hR I X
 obtain ⟨A, hA⟩ : ∃ A, w.heap.size = A := ⟨_, rfl⟩
 rw [hA] at Q2 ⊢
 refine regionL 5 (fun w' => IsB w' b (rmL R (.iface 133 (.pointer (some ⟨s, 0, none⟩)))).toArray 90 ∧ IsB w' A (anL a).toArray 62) mixed ⟨I2.out, Q2.out⟩ (fun hHeld => ?_)
 generalize (w.alloc (.cells (anL a).toArray 62)).drew = WD at *
 refine pkA (v := ?_) 0 (some 13) rfl rfl ?_ (by assumption) ?_
 rotate_left
 · intro w'
   go_simp
   try with_reducible rfl
 try simp only [Act.put, zqa, zqb, zqc]
 refine pkA (v := ?_) 1 (some 14) rfl rfl ?_ (by assumption) ?_
 rotate_left
 · intro w'
   go_simp
   try with_reducible rfl
 try simp only [Act.put, zqa, zqb, zqc]
 refine pkA (v := ?_) 2 (some 15) rfl rfl ?_ (by assumption) ?_
 rotate_left
 · intro w'
   go_simp
   try with_reducible rfl
 try simp only [Act.put, zqa, zqb, zqc]
 refine pkT (v := .iface 133 (.pointer (some ⟨s, 0, none⟩))) 3 (some 16) rfl rfl ?_ (by assumption) ?_
 · intro w' hSw
   obtain ⟨q0, q1⟩ := hSw
   have yy : w'.cell? ⟨b, 3, none⟩ = some (.iface 133 (.pointer (some ⟨s, 0, none⟩))) := rc_h q0
   go_simp
 try simp only [Act.put, zqa, zqb, zqc]
 refine pkT (v := .agg (anL a).toArray) 4 (some 17) rfl rfl ?_ (by assumption) ?_
 · intro w' hSw
   obtain ⟨q0, q1⟩ := hSw
   exact exec_load rfl rfl (ld_ans q1)
 try simp only [Act.put, zqa, zqb, zqc]
 refine lateL (i := 5) (by kernel_rfl) rfl (by decide) (by kernel_rfl) (fun K hK => ?_)
 go_simp
 try go_invoke
 try go_simp
 refine (tell_any s m S ws a ho ha WD HR.out X2.out).mono ?_
 rintro e1 w3 ⟨rfl, X3', K3'⟩
 have X3 := hide X3'
 have K3 := hide K3'
 clear X3' K3'
 refine hK.out _ _ ?_
 clear hK K
 try simp only [Act.put, zqa, zqb, zqc]
 refine doneL (by kernel_rfl) ?_ _
 clear hHeld
 have I3 := I2.out.kp K3.out (by simp; exact hbs)
 clear I2 Q2 X2 HR
 go_wp2_with fail
 refine (goOn_any b s m R (S.tell ws a).1 (S.tell ws a).2 hbs hp w3 I3 X3.out).mono ?_
 rintro e2 w4 ⟨rfl, I4, X4, K4⟩
 have KF : Kp [b, s, m] w w4 := (K1.out.tr (K3.out.mono (fun j hj => Or.inl (by simp at hj ⊢; omega)))).tr (K4.mono (fun j hj => Or.inl (by simp at hj ⊢; omega)))
 go_wp2
 refine bodyPost_end (results_none rfl _ _ _) rfl ?_
 exact ⟨rfl, I4, X4, KF⟩

/-- A removal's settings. -/
def rcL (h : Int) (s : Rf) (k oa oo : Int) : List Value := [.int .i64 h, .int .i64 s.id, .int .i64 s.rk, .int .u64 s.kn, .int .i64 s.ln, .int .u64 s.bt, .int .u64 k, .int .i64 oa, .int .i64 oo]
/-- A new removal. -/
def newR (oa oo : Int) : Rm := ⟨oa, oo, 1, zr, false, 0, 0, 0⟩

set_option maxHeartbeats 2000000 in
set_option maxRecDepth 100000 in
theorem search_bad (h : Int) (st : Rf) (k oa oo : Int) (hb0 : 0 ≤ st.bt) (hm : mayC h st 2 k = false) (w : World) (hR : Ranks w) : Calls Tryz.prog 25 #[.agg (rcL h st k oa oo).toArray] w fun e' w' => e' = .returned (.tuple #[.iface 133 (.pointer none), .int .i64 120]) ∧ Below w.heap.size w w' := by
 have b1 := gb1 w (.cells (rcL h st k oa oo).toArray 33)
 have R1 := hR.below b1
 have Q1 := IsB.new w (rcL h st k oa oo).toArray 33
 have ch : (w.alloc (.cells (rcL h st k oa oo).toArray 33)).cell? ⟨w.heap.size, 0, none⟩ = some (.int .i64 h) := Q1.cell 0
 have ck : (w.alloc (.cells (rcL h st k oa oo).toArray 33)).cell? ⟨w.heap.size, 6, none⟩ = some (.int .u64 k) := Q1.cell 6
 have LS := hide (load_mid Q1 1 29 [.int .i64 st.id, .int .i64 st.rk, .int .u64 st.kn, .int .i64 st.ln, .int .u64 st.bt] _ rfl Tryz.underlying29 rfl (by kernel_rfl))
 clear Q1
 go_enter Tryz.func25, Tryz.ntmps25
 go_wp2_with (first | (focus ((with_reducible refine wpList_load_w ?_ 29 (.tmp 6) ?_ ?_ LS.out ?_); rotate_left; rfl; rfl; rotate_left; rfl)))
 refine (new_bad h st 2 k hb0 hm _ R1).mono ?_
 rintro e1 w1 ⟨rfl, hb⟩
 have B := b1.trans (hb.mono b1.size)
 clear hb
 go_wp2
 refine bodyPost_ret (results_tmp2 Tryz.results25 _ _ _) rfl ?_
 exact ⟨rfl, B⟩

set_option maxHeartbeats 2000000 in
set_option maxRecDepth 100000 in
theorem search_ok (h : Int) (st : Rf) (k oa oo : Int) (hb0 : 0 ≤ st.bt) (hm : mayC h st 2 k = true) (w : World) (hR : Ranks w) : Calls Tryz.prog 25 #[.agg (rcL h st k oa oo).toArray] w fun e' w' => ∃ s m, e' = .returned (.tuple #[.iface 133 (.pointer (some ⟨s, 0, none⟩)), .int .i64 0]) ∧ SkAt w' s m (newS h st 2 k) [] ∧ w.heap.size ≤ s ∧ w.heap.size ≤ m ∧ Below w.heap.size w w' := by
 have b1 := gb1 w (.cells (rcL h st k oa oo).toArray 33)
 have R1 := hR.below b1
 have Q1 := IsB.new w (rcL h st k oa oo).toArray 33
 have ch : (w.alloc (.cells (rcL h st k oa oo).toArray 33)).cell? ⟨w.heap.size, 0, none⟩ = some (.int .i64 h) := Q1.cell 0
 have ck : (w.alloc (.cells (rcL h st k oa oo).toArray 33)).cell? ⟨w.heap.size, 6, none⟩ = some (.int .u64 k) := Q1.cell 6
 have LS := hide (load_mid Q1 1 29 [.int .i64 st.id, .int .i64 st.rk, .int .u64 st.kn, .int .i64 st.ln, .int .u64 st.bt] _ rfl Tryz.underlying29 rfl (by kernel_rfl))
 clear Q1
 go_enter Tryz.func25, Tryz.ntmps25
 go_wp2_with (first | (focus ((with_reducible refine wpList_load_w ?_ 29 (.tmp 6) ?_ ?_ LS.out ?_); rotate_left; rfl; rfl; rotate_left; rfl)))
 refine (new_ok h st 2 k hb0 hm _ R1).mono ?_
 rintro e1 w1 ⟨s, m, rfl, X, h1, h2, hb⟩
 have B := b1.trans (hb.mono b1.size)
 have h3 := Nat.le_trans b1.size h1
 have h4 := Nat.le_trans b1.size h2
 clear hb h1 h2
 go_wp2
 refine bodyPost_ret (results_tmp2 Tryz.results25 _ _ _) rfl ?_
 exact ⟨s, m, rfl, X, h3, h4, B⟩

set_option maxHeartbeats 2000000 in
set_option maxRecDepth 100000 in
theorem rnew_bad (h : Int) (st : Rf) (k oa oo : Int) (hb0 : 0 ≤ st.bt) (hm : mayC h st 2 k = false) (w : World) (hR : Ranks w) : Calls Tryz.prog 6 #[.agg (rcL h st k oa oo).toArray] w fun e' w' => e' = .returned (.tuple #[.pointer none, .int .i64 160]) ∧ Below w.heap.size w w' := by
 have b1 := gb1 w (.cells (rcL h st k oa oo).toArray 33)
 have R1 := hR.below b1
 have Q1 := IsB.new w (rcL h st k oa oo).toArray 33
 have LC := hide (load_mid Q1 0 33 (rcL h st k oa oo) _ rfl Tryz.underlying33 rfl (by kernel_rfl))
 go_enter Tryz.func6, Tryz.ntmps6
 go_wp2_with (first | (focus ((with_reducible refine wpList_load_w ?_ 33 (.tmp 1) ?_ ?_ LC.out ?_); rotate_left; rfl; rfl; rotate_left; rfl)))
 refine (search_bad h st k oa oo hb0 hm _ R1).mono ?_
 rintro e1 w1 ⟨rfl, hb⟩
 have B := b1.trans (hb.mono b1.size)
 clear hb
 go_wp2
 refine bodyPost_ret (results_tmp2 Tryz.results6 _ _ _) rfl ?_
 exact ⟨rfl, B⟩

set_option maxHeartbeats 2000000 in
set_option maxRecDepth 100000 in
theorem rnew_own (h : Int) (st : Rf) (k oa oo : Int) (hb0 : 0 ≤ st.bt) (hm : mayC h st 2 k = true) (ho : okO oa oo = false) (w : World) (hR : Ranks w) : Calls Tryz.prog 6 #[.agg (rcL h st k oa oo).toArray] w fun e' w' => e' = .returned (.tuple #[.pointer none, .int .i64 160]) ∧ Below w.heap.size w w' := by
 have b1 := gb1 w (.cells (rcL h st k oa oo).toArray 33)
 have R1 := hR.below b1
 have Q1 := IsB.new w (rcL h st k oa oo).toArray 33
 have LC := hide (load_mid Q1 0 33 (rcL h st k oa oo) _ rfl Tryz.underlying33 rfl (by kernel_rfl))
 go_enter Tryz.func6, Tryz.ntmps6
 go_wp2_with (first | (focus ((with_reducible refine wpList_load_w ?_ 33 (.tmp 1) ?_ ?_ LC.out ?_); rotate_left; rfl; rfl; rotate_left; rfl)))
 refine (search_ok h st k oa oo hb0 hm _ R1).mono ?_
 rintro e1 w1 ⟨s, m, rfl, X1, h1, h2, hb⟩
 have Q2 := Q1.below hb
 have B1 := b1.trans (hb.mono b1.size)
 have LO1 := hide (load_mid Q2 7 31 [.int .i64 oa, .int .i64 oo] _ rfl Tryz.underlying31 rfl (by kernel_rfl))
 go_wp2_with (first | (focus ((with_reducible refine wpList_load_w ?_ 31 (.tmp 14) ?_ ?_ LO1.out ?_); rotate_left; rfl; rfl; rotate_left; rfl)))
 refine (check_any oa oo w1).mono ?_
 rintro e2 w2 ⟨rfl, hb2⟩
 rw [chE_no ho]
 have B := B1.trans (hb2.mono B1.size)
 clear hb hb2
 go_wp2
 refine bodyPost_ret (results_tmp2 Tryz.results6 _ _ _) rfl ?_
 exact ⟨rfl, B⟩

set_option maxHeartbeats 2000000 in
set_option maxRecDepth 100000 in
theorem rnew_ok (h : Int) (st : Rf) (k oa oo : Int) (hb0 : 0 ≤ st.bt) (hm : mayC h st 2 k = true) (ho : okO oa oo = true) (w : World) (hR : Ranks w) : Calls Tryz.prog 6 #[.agg (rcL h st k oa oo).toArray] w fun e' w' => ∃ b s m, e' = .returned (.tuple #[.pointer (some ⟨b, 0, none⟩), .int .i64 0]) ∧ IsB w' b (rmL (newR oa oo) (.iface 133 (.pointer (some ⟨s, 0, none⟩)))).toArray 90 ∧ SkAt w' s m (newS h st 2 k) [] ∧ s < b ∧ m < b ∧ w.heap.size ≤ s ∧ w.heap.size ≤ m ∧ Below w.heap.size w w' := by
 have b1 := gb1 w (.cells (rcL h st k oa oo).toArray 33)
 have R1 := hR.below b1
 have Q1 := IsB.new w (rcL h st k oa oo).toArray 33
 have LC := hide (load_mid Q1 0 33 (rcL h st k oa oo) _ rfl Tryz.underlying33 rfl (by kernel_rfl))
 go_enter Tryz.func6, Tryz.ntmps6
 go_wp2_with (first | (focus ((with_reducible refine wpList_load_w ?_ 33 (.tmp 1) ?_ ?_ LC.out ?_); rotate_left; rfl; rfl; rotate_left; rfl)))
 refine (search_ok h st k oa oo hb0 hm _ R1).mono ?_
 rintro e1 w1 ⟨s, m, rfl, X1, h1, h2, hb⟩
 have Q2 := Q1.below hb
 have B1 := b1.trans (hb.mono b1.size)
 have LO1 := hide (load_mid Q2 7 31 [.int .i64 oa, .int .i64 oo] _ rfl Tryz.underlying31 rfl (by kernel_rfl))
 go_wp2_with (first | (focus ((with_reducible refine wpList_load_w ?_ 31 (.tmp 14) ?_ ?_ LO1.out ?_); rotate_left; rfl; rfl; rotate_left; rfl)))
 refine (check_any oa oo w1).mono ?_
 rintro e2 w2 ⟨rfl, hb2⟩
 rw [chE_yes ho]
 have Q3 := Q2.below hb2
 have X2 := X1.below hb2
 have B2 := B1.trans (hb2.mono B1.size)
 have LO2 := hide (load_mid Q3 7 31 [.int .i64 oa, .int .i64 oo] _ rfl Tryz.underlying31 rfl (by kernel_rfl))
 have h3 := Nat.le_trans b1.size h1
 have h4 := Nat.le_trans b1.size h2
 have bn := gb1 w2 (.cells (rmL (newR oa oo) (.iface 133 (.pointer (some ⟨s, 0, none⟩)))).toArray 90)
 have X3 := X2.below bn
 have B3 := B2.trans (bn.mono B2.size)
 have I3 := IsB.new w2 (rmL (newR oa oo) (.iface 133 (.pointer (some ⟨s, 0, none⟩)))).toArray 90
 have l1 := X2.blk.lt
 have l2 := X2.map.lt
 clear hb hb2 bn
 go_wp2_with (first | (focus ((with_reducible refine wpList_load_w ?_ 31 (.tmp 19) ?_ ?_ LO2.out ?_); rotate_left; rfl; rfl; rotate_left; rfl)))
 refine bodyPost_ret (results_tmp2 Tryz.results6 _ _ _) rfl ?_
 exact ⟨_, s, m, rfl, I3, X3, l1, l2, h3, h4, B3⟩

end Go.Proofs.YtokehogcenjefaaGreatDoor
