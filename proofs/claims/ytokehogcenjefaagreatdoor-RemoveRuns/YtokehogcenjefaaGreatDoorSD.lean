/- rises, goLeft. -/
import Derived.Test.YtokehogcenjefaaGreatDoorSC
namespace Go.Proofs.YtokehogcenjefaaGreatDoor
open Go.RowKit Go.Maps Go.ChangeMaps

/-- Does one stand ahead of another one? -/
def rlt (x y : Rf) : Bool := klt (x.rk, x.kn) (y.rk, y.kn)

set_option maxHeartbeats 2000000 in
set_option maxRecDepth 100000 in
theorem rises_any (x y : Rf) (w : World) : Calls Tryz.prog 158 #[.agg x.cells, .agg y.cells] w fun e w' => e = .returned (.bool (rlt x y)) ∧ Below w.heap.size w w' := by
 have b1 := ((Below.refl w.heap.size w).alloc (Nat.le_refl _) (.cells x.cells 29)).alloc (by simp) (.cells y.cells 29)
 have A := (IsB.new w x.cells 29).below ((Below.refl _ _).alloc (Nat.le_refl _) (.cells y.cells 29))
 have B := IsB.new (w.alloc (.cells x.cells 29)) y.cells 29
 rw [World.size_alloc] at B
 have L1 := hide (ld_key A)
 have L2 := hide (ld_key B)
 have BB := hide b1
 have KL := hide (kLess_any x.rk x.kn y.rk y.kn ((w.alloc (.cells x.cells 29)).alloc (.cells y.cells 29)))
 clear b1 A B
 unfold rlt
 generalize klt (x.rk, x.kn) (y.rk, y.kn) = E at *
 go_enter Tryz.func158, Tryz.ntmps158
 go_wp2_with (first | (focus ((with_reducible refine wpList_load_w ?_ 25 (.tmp 5) ?_ ?_ L1.out ?_); rotate_left; rfl; rfl; rotate_left; rfl)) | (focus ((with_reducible refine wpList_load_w ?_ 25 (.tmp 7) ?_ ?_ L2.out ?_); rotate_left; rfl; rfl; rotate_left; rfl)))
 refine KL.out.mono ?_
 rintro e w2 ⟨rfl, hg⟩
 replace BB := hide (BB.out.trans (hg.below.mono BB.out.size))
 clear hg KL L1 L2
 go_wp2
 go_ret
 exact ⟨rfl, BB.out⟩

/-- It stands on the one to its left. -/
def Sk.left (S : Sk) (l : Rf) : Sk := if rlt l S.pt = true ∧ ckE l.rk l.kn = 0 then { S with pt := l, ah := zr, lk := false } else S.begin

set_option maxHeartbeats 2000000 in
set_option maxRecDepth 100000 in
theorem goLeft_A (b m : Nat) (S : Sk) (ws : List (Pl × Rf)) (l : Rf) (h0 : 0 ≤ S.n) (h1 : S.n ≤ 64) (hL : rlt l S.pt = false) (w : World) (hR : Ranks w) (X : SkAt w b m S ws) : Calls Tryz.prog 152 #[.pointer (some ⟨b, 0, none⟩), .agg l.cells] w fun e w' => e = .returned (.tuple #[]) ∧ SkAt w' b m (S.begin) ws ∧ Kp [b, m] w w' := by
 have mixed : Tryz.prog.follows .mixedOrders = true := by kernel_rfl
 have b1 := ((Below.refl w.heap.size w).alloc (Nat.le_refl _) (.cells l.cells 29)).drew
 have RB : Hid (IsB ((w.alloc (.cells l.cells 29)).drew) w.heap.size l.cells 29) := (IsB.new w l.cells 29).below ((Below.refl _ _).drew)
 have X1 := hide (X.below b1)
 have HR := hide (hR.below b1)
 have KZ : Hid (Kp [b, m] w ((w.alloc (.cells l.cells 29)).drew)) := Kp.of_below b1
 have HL := hide hL
 skip
 replace h0 := hide h0
 replace h1 := hide h1
 clear b1 X hR hL
 go_enter Tryz.func152, Tryz.ntmps152
 go_wp2_with fail
 generalize w.heap.size = H at RB ⊢
 refine regionL 13 (fun w' => IsB w' b (skL S (.map (some m))).toArray 171 ∧ IsB w' H l.cells 29) mixed ⟨X1.out.blk, RB.out⟩ (fun hHeld => ?_)
 generalize ((w.alloc (.cells l.cells 29)).drew) = WD at *
 refine pkL (v := .agg l.cells) 0 (some 4) rfl rfl ?_ (by assumption) ?_
 · intro w' hSw
   obtain ⟨q0, q1⟩ := hSw
   exact exec_load rfl rfl (load_ref q1 rfl)
 try simp only [Act.put, zqa, zqb, zqc]
 refine pkA (v := ?_) 1 (some 5) rfl rfl ?_ (by assumption) ?_
 rotate_left
 · intro w'
   go_simp
   try with_reducible rfl
 try simp only [Act.put, zqa, zqb, zqc]
 refine pkA (v := ?_) 2 (some 6) rfl rfl ?_ (by assumption) ?_
 rotate_left
 · intro w'
   go_simp
   try with_reducible rfl
 try simp only [Act.put, zqa, zqb, zqc]
 refine pkA (v := ?_) 3 (some 7) rfl rfl ?_ (by assumption) ?_
 rotate_left
 · intro w'
   go_simp
   try with_reducible rfl
 try simp only [Act.put, zqa, zqb, zqc]
 refine pkL (v := .agg S.pt.cells) 4 (some 8) rfl rfl ?_ (by assumption) ?_
 · intro w' hSw
   obtain ⟨q0, q1⟩ := hSw
   exact exec_load rfl rfl (ld_here q0)
 try simp only [Act.put, zqa, zqb, zqc]
 refine oneL (i := 5) (by kernel_rfl) rfl (fun K hK => ?_)
 go_simp
 refine (rises_any l S.pt WD).mono ?_
 rintro e w2 ⟨rfl, hb⟩
 rw [HL.out]
 have X2 := hide (X1.out.below hb)
 have RB2 := hide (RB.out.below hb)
 have HR2 := hide (HR.out.below hb)
 have K2 : Hid (Kp [b, m] w w2) := KZ.out.bel hb
 clear hb
 refine hK.out _ _ ?_ ?_
 · exact ⟨X2.out.blk, RB2.out⟩
 clear hK K
 try simp only [Act.put, zqa, zqb, zqc]
 clear hHeld
 have hHeld : (fun w' => IsB w' b (skL S (.map (some m))).toArray 171 ∧ IsB w' H l.cells 29) w2 := ⟨X2.out.blk, RB2.out⟩
 refine pkA (v := ?_) 6 (some 10) rfl rfl ?_ (by assumption) ?_
 rotate_left
 · intro w'
   go_simp
   try with_reducible rfl
 try simp only [Act.put, zqa, zqb, zqc]
 refine pkA (v := ?_) 7 (some 11) rfl rfl ?_ (by assumption) ?_
 rotate_left
 · intro w'
   go_simp
   try with_reducible rfl
 try simp only [Act.put, zqa, zqb, zqc]
 refine pickN 8 (some 12) rfl rfl (by kernel_rfl) (by kernel_rfl) (by kernel_rfl) (by decide) (fun _ _ _ h => h) (by rfl) (by assumption) ?_
 try simp only [Act.put, zqa, zqb, zqc]
 refine pickN 9 (some 13) rfl rfl (by kernel_rfl) (by kernel_rfl) (by kernel_rfl) (by decide) (fun _ _ _ h => h) (by rfl) (by assumption) ?_
 try simp only [Act.put, zqa, zqb, zqc]
 refine pickN 10 (some 14) rfl rfl (by kernel_rfl) (by kernel_rfl) (by kernel_rfl) (by decide) (fun _ _ _ h => h) (by rfl) (by assumption) ?_
 try simp only [Act.put, zqa, zqb, zqc]
 refine pickN 11 (some 15) rfl rfl (by kernel_rfl) (by kernel_rfl) (by kernel_rfl) (by decide) (fun _ _ _ h => h) (by rfl) (by assumption) ?_
 try simp only [Act.put, zqa, zqb, zqc]
 refine pkA (v := ?_) 12 (some 16) rfl rfl ?_ (by assumption) ?_
 rotate_left
 · intro w'
   go_simp
   try with_reducible rfl
 try simp only [Act.put, zqa, zqb, zqc]
 refine doneL (by kernel_rfl) ?_ _
 clear hHeld
 have BG := hide (begin_any b m S ws h0.out h1.out w2 X2.out)
 clear X2 X1 RB RB2 HR HR2 h0 h1
 go_wp2_with fail
 refine BG.out.mono ?_
 rintro e w5 ⟨rfl, X5, K5⟩
 have F5 := hide X5
 have K6 := hide (K2.out.tr K5)
 clear BG X5 K5
 go_wp2
 refine bodyPost_ret (results_none rfl _ _ _) rfl ?_
 exact ⟨rfl, F5.out, K6.out⟩

set_option maxHeartbeats 2000000 in
set_option maxRecDepth 100000 in
theorem goLeft_B (b m : Nat) (S : Sk) (ws : List (Pl × Rf)) (l : Rf) (h0 : 0 ≤ S.n) (h1 : S.n ≤ 64) (hL : rlt l S.pt = true) (hC : ckE l.rk l.kn = 20) (w : World) (hR : Ranks w) (X : SkAt w b m S ws) : Calls Tryz.prog 152 #[.pointer (some ⟨b, 0, none⟩), .agg l.cells] w fun e w' => e = .returned (.tuple #[]) ∧ SkAt w' b m (S.begin) ws ∧ Kp [b, m] w w' := by
 have mixed : Tryz.prog.follows .mixedOrders = true := by kernel_rfl
 have b1 := ((Below.refl w.heap.size w).alloc (Nat.le_refl _) (.cells l.cells 29)).drew
 have RB : Hid (IsB ((w.alloc (.cells l.cells 29)).drew) w.heap.size l.cells 29) := (IsB.new w l.cells 29).below ((Below.refl _ _).drew)
 have X1 := hide (X.below b1)
 have HR := hide (hR.below b1)
 have KZ : Hid (Kp [b, m] w ((w.alloc (.cells l.cells 29)).drew)) := Kp.of_below b1
 have HL := hide hL
 replace hC := hide hC
 have HC := hC
 replace h0 := hide h0
 replace h1 := hide h1
 clear b1 X hR hL
 go_enter Tryz.func152, Tryz.ntmps152
 go_wp2_with fail
 generalize w.heap.size = H at RB ⊢
 refine regionL 13 (fun w' => IsB w' b (skL S (.map (some m))).toArray 171 ∧ IsB w' H l.cells 29) mixed ⟨X1.out.blk, RB.out⟩ (fun hHeld => ?_)
 generalize ((w.alloc (.cells l.cells 29)).drew) = WD at *
 refine pkL (v := .agg l.cells) 0 (some 4) rfl rfl ?_ (by assumption) ?_
 · intro w' hSw
   obtain ⟨q0, q1⟩ := hSw
   exact exec_load rfl rfl (load_ref q1 rfl)
 try simp only [Act.put, zqa, zqb, zqc]
 refine pkA (v := ?_) 1 (some 5) rfl rfl ?_ (by assumption) ?_
 rotate_left
 · intro w'
   go_simp
   try with_reducible rfl
 try simp only [Act.put, zqa, zqb, zqc]
 refine pkA (v := ?_) 2 (some 6) rfl rfl ?_ (by assumption) ?_
 rotate_left
 · intro w'
   go_simp
   try with_reducible rfl
 try simp only [Act.put, zqa, zqb, zqc]
 refine pkA (v := ?_) 3 (some 7) rfl rfl ?_ (by assumption) ?_
 rotate_left
 · intro w'
   go_simp
   try with_reducible rfl
 try simp only [Act.put, zqa, zqb, zqc]
 refine pkL (v := .agg S.pt.cells) 4 (some 8) rfl rfl ?_ (by assumption) ?_
 · intro w' hSw
   obtain ⟨q0, q1⟩ := hSw
   exact exec_load rfl rfl (ld_here q0)
 try simp only [Act.put, zqa, zqb, zqc]
 refine oneL (i := 5) (by kernel_rfl) rfl (fun K hK => ?_)
 go_simp
 refine (rises_any l S.pt WD).mono ?_
 rintro e w2 ⟨rfl, hb⟩
 rw [HL.out]
 have X2 := hide (X1.out.below hb)
 have RB2 := hide (RB.out.below hb)
 have HR2 := hide (HR.out.below hb)
 have K2 : Hid (Kp [b, m] w w2) := KZ.out.bel hb
 clear hb
 refine hK.out _ _ ?_ ?_
 · exact ⟨X2.out.blk, RB2.out⟩
 clear hK K
 try simp only [Act.put, zqa, zqb, zqc]
 clear hHeld
 have hHeld : (fun w' => IsB w' b (skL S (.map (some m))).toArray 171 ∧ IsB w' H l.cells 29) w2 := ⟨X2.out.blk, RB2.out⟩
 refine pkA (v := ?_) 6 (some 10) rfl rfl ?_ (by assumption) ?_
 rotate_left
 · intro w'
   go_simp
   try with_reducible rfl
 try simp only [Act.put, zqa, zqb, zqc]
 refine pkA (v := ?_) 7 (some 11) rfl rfl ?_ (by assumption) ?_
 rotate_left
 · intro w'
   go_simp
   try with_reducible rfl
 try simp only [Act.put, zqa, zqb, zqc]
 refine pkA (v := ?_) 8 (some 12) rfl rfl ?_ (by assumption) ?_
 rotate_left
 · intro w'
   go_simp
   try with_reducible rfl
 try simp only [Act.put, zqa, zqb, zqc]
 refine pkL (v := .agg #[.int .i64 l.rk, .int .u64 l.kn]) 9 (some 13) rfl rfl ?_ (by assumption) ?_
 · intro w' hSw
   obtain ⟨q0, q1⟩ := hSw
   exact exec_load rfl rfl (ld_key q1)
 try simp only [Act.put, zqa, zqb, zqc]
 refine oneL (i := 10) (by kernel_rfl) rfl (fun K hK => ?_)
 go_simp
 refine (kCheck_any l.rk l.kn w2 HR2.out).mono ?_
 rintro e w3 ⟨rfl, hg⟩
 rw [HC.out]
 replace X2 := hide (X2.out.below hg.below)
 replace RB2 := hide (RB2.out.below hg.below)
 replace HR2 := hide (HR2.out.gr hg)
 replace K2 : Hid (Kp [b, m] w w3) := K2.out.bel hg.below
 clear hg
 refine hK.out _ _ ?_ ?_
 · exact ⟨X2.out.blk, RB2.out⟩
 clear hK K
 try simp only [Act.put, zqa, zqb, zqc]
 clear hHeld
 have hHeld : (fun w' => IsB w' b (skL S (.map (some m))).toArray 171 ∧ IsB w' H l.cells 29) w3 := ⟨X2.out.blk, RB2.out⟩
 refine pkA (v := ?_) 11 (some 15) rfl rfl ?_ (by assumption) ?_
 rotate_left
 · intro w'
   go_simp
   try with_reducible rfl
 try simp only [Act.put, zqa, zqb, zqc]
 refine pkA (v := ?_) 12 (some 16) rfl rfl ?_ (by assumption) ?_
 rotate_left
 · intro w'
   go_simp
   try with_reducible rfl
 try simp only [Act.put, zqa, zqb, zqc]
 refine doneL (by kernel_rfl) ?_ _
 clear hHeld
 have BG := hide (begin_any b m S ws h0.out h1.out w3 X2.out)
 clear X2 X1 RB RB2 HR HR2 h0 h1
 go_wp2_with fail
 refine BG.out.mono ?_
 rintro e w5 ⟨rfl, X5, K5⟩
 have F5 := hide X5
 have K6 := hide (K2.out.tr K5)
 clear BG X5 K5
 go_wp2
 refine bodyPost_ret (results_none rfl _ _ _) rfl ?_
 exact ⟨rfl, F5.out, K6.out⟩

set_option maxHeartbeats 2000000 in
set_option maxRecDepth 100000 in
theorem goLeft_C (b m : Nat) (S : Sk) (ws : List (Pl × Rf)) (l : Rf) (h0 : 0 ≤ S.n) (h1 : S.n ≤ 64) (hL : rlt l S.pt = true) (hC : ckE l.rk l.kn = 0) (w : World) (hR : Ranks w) (X : SkAt w b m S ws) : Calls Tryz.prog 152 #[.pointer (some ⟨b, 0, none⟩), .agg l.cells] w fun e w' => e = .returned (.tuple #[]) ∧ SkAt w' b m ({ S with pt := l, ah := zr, lk := false }) ws ∧ Kp [b, m] w w' := by
 have mixed : Tryz.prog.follows .mixedOrders = true := by kernel_rfl
 have b1 := ((Below.refl w.heap.size w).alloc (Nat.le_refl _) (.cells l.cells 29)).drew
 have RB : Hid (IsB ((w.alloc (.cells l.cells 29)).drew) w.heap.size l.cells 29) := (IsB.new w l.cells 29).below ((Below.refl _ _).drew)
 have X1 := hide (X.below b1)
 have HR := hide (hR.below b1)
 have KZ : Hid (Kp [b, m] w ((w.alloc (.cells l.cells 29)).drew)) := Kp.of_below b1
 have HL := hide hL
 replace hC := hide hC
 have HC := hC
 replace h0 := hide h0
 replace h1 := hide h1
 clear b1 X hR hL
 go_enter Tryz.func152, Tryz.ntmps152
 go_wp2_with fail
 generalize w.heap.size = H at RB ⊢
 refine regionL 13 (fun w' => IsB w' b (skL S (.map (some m))).toArray 171 ∧ IsB w' H l.cells 29) mixed ⟨X1.out.blk, RB.out⟩ (fun hHeld => ?_)
 generalize ((w.alloc (.cells l.cells 29)).drew) = WD at *
 refine pkL (v := .agg l.cells) 0 (some 4) rfl rfl ?_ (by assumption) ?_
 · intro w' hSw
   obtain ⟨q0, q1⟩ := hSw
   exact exec_load rfl rfl (load_ref q1 rfl)
 try simp only [Act.put, zqa, zqb, zqc]
 refine pkA (v := ?_) 1 (some 5) rfl rfl ?_ (by assumption) ?_
 rotate_left
 · intro w'
   go_simp
   try with_reducible rfl
 try simp only [Act.put, zqa, zqb, zqc]
 refine pkA (v := ?_) 2 (some 6) rfl rfl ?_ (by assumption) ?_
 rotate_left
 · intro w'
   go_simp
   try with_reducible rfl
 try simp only [Act.put, zqa, zqb, zqc]
 refine pkA (v := ?_) 3 (some 7) rfl rfl ?_ (by assumption) ?_
 rotate_left
 · intro w'
   go_simp
   try with_reducible rfl
 try simp only [Act.put, zqa, zqb, zqc]
 refine pkL (v := .agg S.pt.cells) 4 (some 8) rfl rfl ?_ (by assumption) ?_
 · intro w' hSw
   obtain ⟨q0, q1⟩ := hSw
   exact exec_load rfl rfl (ld_here q0)
 try simp only [Act.put, zqa, zqb, zqc]
 refine oneL (i := 5) (by kernel_rfl) rfl (fun K hK => ?_)
 go_simp
 refine (rises_any l S.pt WD).mono ?_
 rintro e w2 ⟨rfl, hb⟩
 rw [HL.out]
 have X2 := hide (X1.out.below hb)
 have RB2 := hide (RB.out.below hb)
 have HR2 := hide (HR.out.below hb)
 have K2 : Hid (Kp [b, m] w w2) := KZ.out.bel hb
 clear hb
 refine hK.out _ _ ?_ ?_
 · exact ⟨X2.out.blk, RB2.out⟩
 clear hK K
 try simp only [Act.put, zqa, zqb, zqc]
 clear hHeld
 have hHeld : (fun w' => IsB w' b (skL S (.map (some m))).toArray 171 ∧ IsB w' H l.cells 29) w2 := ⟨X2.out.blk, RB2.out⟩
 refine pkA (v := ?_) 6 (some 10) rfl rfl ?_ (by assumption) ?_
 rotate_left
 · intro w'
   go_simp
   try with_reducible rfl
 try simp only [Act.put, zqa, zqb, zqc]
 refine pkA (v := ?_) 7 (some 11) rfl rfl ?_ (by assumption) ?_
 rotate_left
 · intro w'
   go_simp
   try with_reducible rfl
 try simp only [Act.put, zqa, zqb, zqc]
 refine pkA (v := ?_) 8 (some 12) rfl rfl ?_ (by assumption) ?_
 rotate_left
 · intro w'
   go_simp
   try with_reducible rfl
 try simp only [Act.put, zqa, zqb, zqc]
 refine pkL (v := .agg #[.int .i64 l.rk, .int .u64 l.kn]) 9 (some 13) rfl rfl ?_ (by assumption) ?_
 · intro w' hSw
   obtain ⟨q0, q1⟩ := hSw
   exact exec_load rfl rfl (ld_key q1)
 try simp only [Act.put, zqa, zqb, zqc]
 refine oneL (i := 10) (by kernel_rfl) rfl (fun K hK => ?_)
 go_simp
 refine (kCheck_any l.rk l.kn w2 HR2.out).mono ?_
 rintro e w3 ⟨rfl, hg⟩
 rw [HC.out]
 replace X2 := hide (X2.out.below hg.below)
 replace RB2 := hide (RB2.out.below hg.below)
 replace HR2 := hide (HR2.out.gr hg)
 replace K2 : Hid (Kp [b, m] w w3) := K2.out.bel hg.below
 clear hg
 refine hK.out _ _ ?_ ?_
 · exact ⟨X2.out.blk, RB2.out⟩
 clear hK K
 try simp only [Act.put, zqa, zqb, zqc]
 clear hHeld
 have hHeld : (fun w' => IsB w' b (skL S (.map (some m))).toArray 171 ∧ IsB w' H l.cells 29) w3 := ⟨X2.out.blk, RB2.out⟩
 refine pkA (v := ?_) 11 (some 15) rfl rfl ?_ (by assumption) ?_
 rotate_left
 · intro w'
   go_simp
   try with_reducible rfl
 try simp only [Act.put, zqa, zqb, zqc]
 refine pkA (v := ?_) 12 (some 16) rfl rfl ?_ (by assumption) ?_
 rotate_left
 · intro w'
   go_simp
   try with_reducible rfl
 try simp only [Act.put, zqa, zqb, zqc]
 refine doneL (by kernel_rfl) ?_ _
 clear hHeld
 have LR := hide (load_ref RB2.out rfl)
 have SD := hide (stand_any b m S ws l w3 X2.out)
 clear X2 X1 RB RB2 HR HR2 h0 h1
 go_wp2_with (first | (focus ((with_reducible refine wpList_load_w ?_ 29 (.tmp 3) ?_ ?_ LR.out ?_); rotate_left; rfl; rfl; rotate_left; rfl)))
 refine SD.out.mono ?_
 rintro e w5 ⟨rfl, X5, K5⟩
 have F5 := hide X5
 have K6 := hide (K2.out.tr K5)
 clear SD X5 K5 LR
 go_wp2
 refine bodyPost_end (results_none rfl _ _ _) rfl ?_
 exact ⟨rfl, F5.out, K6.out⟩

theorem goLeft_any (b m : Nat) (S : Sk) (ws : List (Pl × Rf)) (l : Rf) (h0 : 0 ≤ S.n) (h1 : S.n ≤ 64) (w : World) (hR : Ranks w) (X : SkAt w b m S ws) : Calls Tryz.prog 152 #[.pointer (some ⟨b, 0, none⟩), .agg l.cells] w fun e w' => e = .returned (.tuple #[]) ∧ SkAt w' b m (S.left l) ws ∧ Kp [b, m] w w' := by
 unfold Sk.left
 by_cases hL : rlt l S.pt = true
 · rcases ck_cases l.rk l.kn with ⟨hC, -⟩ | ⟨hC, -⟩
   · rw [if_neg (by rw [hC]; simp)]
     exact goLeft_B b m S ws l h0 h1 hL hC w hR X
   · rw [if_pos ⟨hL, hC⟩]
     exact goLeft_C b m S ws l h0 h1 hL hC w hR X
 · rw [if_neg (fun h => hL h.1)]
   exact goLeft_A b m S ws l h0 h1 (by simpa using hL) w hR X

end Go.Proofs.YtokehogcenjefaaGreatDoor
