/- goRight. -/
import Derived.Test.YtokehogcenjefaaGreatDoorSE
import Derived.Test.YtokehogcenjefaaGreatDoorSQ
import Derived.Test.YtokehogcenjefaaGreatDoorSL
namespace Go.Proofs.YtokehogcenjefaaGreatDoor
open Go.RowKit Go.Maps Go.ChangeMaps

/-- It goes right, to one of which no will is kept. -/
def Sk.next (S : Sk) (x : Rf) : Sk := if klt (x.rk, x.kn) (S.tr, S.tn) = true then { S with ah := x, lk := true } else if 0 < S.wl then { S with wl := S.wl - 1, wb := ((pre S.wl.toNat S.wb.toNat (S.wl - 1).toNat : Nat) : Int), ah := zr, lk := false } else { S with ov := true, e := 0, rl := S.pt, rr := x, fd := x.rk == S.tr && x.kn == S.tn }
/-- It goes right. -/
def Sk.right (S : Sk) (ws : List (Pl × Rf)) (r : Rf) : Sk := match liv ws S.wl S.wb S.pt r with
 | none => S.begin
 | some x => S.next x
theorem wrap_pos (x : Int) (h0 : 0 ≤ x) (h1 : x < 9223372036854775808) : IntKind.i64.wrap x = x := by
 have h2 : x % 18446744073709551616 = x := Int.emod_eq_of_lt h0 (by omega)
 have h3 : ¬ (9223372036854775808 ≤ x) := by omega
 simp [IntKind.wrap, IntKind.bits, IntKind.signed, h2, h3]
theorem wf_i {x : Int} (h0 : -9223372036854775808 ≤ x) (h1 : x < 9223372036854775808) : (Lit.int .i64 x).wf = true := by
 simp [Lit.wf, IntKind.min, IntKind.max, IntKind.bits, IntKind.signed]
 omega
theorem wf_u {x : Int} (h0 : 0 ≤ x) (h1 : x < 18446744073709551616) : (Lit.int .u64 x).wf = true := by
 simp [Lit.wf, IntKind.min, IntKind.max, IntKind.bits, IntKind.signed]
 omega
theorem rt_wf {n b : Int} (h : rt n b = true) (hb : 0 ≤ b) : (Lit.int .i64 n).wf = true ∧ (Lit.int .u64 b).wf = true := by
 obtain ⟨h0, h1, h2⟩ := of_decide_eq_true h
 have h3 : (2 : Int) ^ n.toNat ≤ 2 ^ 32 := by
   have := Nat.pow_le_pow_right (n := 2) (by omega) (show n.toNat ≤ 32 by omega)
   exact_mod_cast this
 have h4 : (2 : Int) ^ 32 = 4294967296 := by decide
 exact ⟨wf_i (by omega) (by omega), wf_u hb (by omega)⟩

set_option maxHeartbeats 2000000 in
set_option maxRecDepth 100000 in
theorem goRight_none (b m : Nat) (S : Sk) (ws : List (Pl × Rf)) (r0 : Rf) (hid : (Lit.int .i64 r0.id).wf = true) (hok : ∀ x ∈ ws, (Lit.int .i64 x.2.id).wf = true) (hrt : rt S.wl S.wb = true) (hwb : 0 ≤ S.wb) (h0 : 0 ≤ S.n) (h1 : S.n ≤ 64) (hE : liv ws S.wl S.wb S.pt r0 = none) (w : World) (hR : Ranks w) (X : SkAt w b m S ws) : Calls Tryz.prog 148 #[.pointer (some ⟨b, 0, none⟩), .agg r0.cells] w fun e w' => e = .returned (.tuple #[]) ∧ SkAt w' b m (S.begin) ws ∧ Kp [b, m] w w' := by
 have mixed : Tryz.prog.follows .mixedOrders = true := by kernel_rfl
 have b1 := (Below.refl w.heap.size w).alloc (Nat.le_refl _) (.cells r0.cells 29)
 have RB := IsB.new w r0.cells 29
 have X1 := hide (X.below b1)
 have HR := hide (hR.below b1)
 have KZ : Hid (Kp [b, m] w (w.alloc (.cells r0.cells 29))) := Kp.of_below b1
 have L1 := hide (load_ref RB rfl)
 have LV := hide (living_any b m S ws r0 hid hok (rt_wf hrt hwb).1 (rt_wf hrt hwb).2 _ (hR.below b1) (X.below b1))
 rw [hE] at LV
 clear b1 RB X hR hE hid hok
 replace h0 := hide h0
 replace h1 := hide h1
 replace hrt := hide hrt
 replace hwb := hide hwb
 go_enter Tryz.func148, Tryz.ntmps148
 go_wp2_with (first | (focus ((with_reducible refine wpList_load_w ?_ 29 (.tmp 3) ?_ ?_ L1.out ?_); rotate_left; rfl; rfl; rotate_left; rfl)))
 refine LV.out.mono ?_
 rintro e w2 ⟨rfl, hb⟩
 have X2 := X1.out.below hb
 have HR2 := HR.out.below hb
 have K2 := KZ.out.bel hb
 simp only [Option.getD, Option.isSome]
 have bN := (Below.refl w2.heap.size w2).alloc (Nat.le_refl _) (.cells (zr).cells 29)
 have NB := hide (IsB.new w2 (zr).cells 29)
 have X3 := hide (X2.below bN)
 have HR3 := hide (HR2.below bN)
 have K3 := hide (K2.bel bN)
 have SN := hide (store_new w2 (zr))
 clear hb bN X2 HR2 K2 LV L1 X1 HR KZ
 go_wp2_with (first | (focus ((with_reducible refine wpList_store_w ?_ 29 (.tmp 4) (.tmp 10) ?_ ?_ ?_ SN.out ?_); rotate_left; rfl; rfl; rfl; rotate_left; rfl)))
 try simp only [Act.put]
 try go_wp2_with fail
 have BG := begin_any b m S ws h0.out h1.out _ X3.out
 refine BG.mono ?_
 rintro e w5 ⟨rfl, X5, K5⟩
 have F5 := hide X5
 have K6 := hide (K3.out.tr K5)
 clear BG X5 K5
 go_wp2
 refine bodyPost_end (results_none rfl _ _ _) rfl ?_
 exact ⟨rfl, F5.out, K6.out⟩

set_option maxHeartbeats 2000000 in
set_option maxRecDepth 100000 in
theorem goRight_look (b m : Nat) (S : Sk) (ws : List (Pl × Rf)) (r0 : Rf) (hid : (Lit.int .i64 r0.id).wf = true) (hok : ∀ x ∈ ws, (Lit.int .i64 x.2.id).wf = true) (hrt : rt S.wl S.wb = true) (hwb : 0 ≤ S.wb) (h0 : 0 ≤ S.n) (h1 : S.n ≤ 64) (x : Rf) (hE : liv ws S.wl S.wb S.pt r0 = some x) (hL : klt (x.rk, x.kn) (S.tr, S.tn) = true) (w : World) (hR : Ranks w) (X : SkAt w b m S ws) : Calls Tryz.prog 148 #[.pointer (some ⟨b, 0, none⟩), .agg r0.cells] w fun e w' => e = .returned (.tuple #[]) ∧ SkAt w' b m ({ S with ah := x, lk := true }) ws ∧ Kp [b, m] w w' := by
 have mixed : Tryz.prog.follows .mixedOrders = true := by kernel_rfl
 have b1 := (Below.refl w.heap.size w).alloc (Nat.le_refl _) (.cells r0.cells 29)
 have RB := IsB.new w r0.cells 29
 have X1 := hide (X.below b1)
 have HR := hide (hR.below b1)
 have KZ : Hid (Kp [b, m] w (w.alloc (.cells r0.cells 29))) := Kp.of_below b1
 have L1 := hide (load_ref RB rfl)
 have LV := hide (living_any b m S ws r0 hid hok (rt_wf hrt hwb).1 (rt_wf hrt hwb).2 _ (hR.below b1) (X.below b1))
 rw [hE] at LV
 clear b1 RB X hR hE hid hok
 replace h0 := hide h0
 replace h1 := hide h1
 replace hrt := hide hrt
 replace hwb := hide hwb
 have HL := hide hL
 clear hL
 go_enter Tryz.func148, Tryz.ntmps148
 go_wp2_with (first | (focus ((with_reducible refine wpList_load_w ?_ 29 (.tmp 3) ?_ ?_ L1.out ?_); rotate_left; rfl; rfl; rotate_left; rfl)))
 refine LV.out.mono ?_
 rintro e w2 ⟨rfl, hb⟩
 have X2 := X1.out.below hb
 have HR2 := HR.out.below hb
 have K2 := KZ.out.bel hb
 simp only [Option.getD, Option.isSome]
 have bN := (Below.refl w2.heap.size w2).alloc (Nat.le_refl _) (.cells (x).cells 29)
 have NB := hide (IsB.new w2 (x).cells 29)
 have X3 := hide (X2.below bN)
 have HR3 := hide (HR2.below bN)
 have K3 := hide (K2.bel bN)
 have SN := hide (store_new w2 (x))
 clear hb bN X2 HR2 K2 LV L1 X1 HR KZ
 go_wp2_with (first | (focus ((with_reducible refine wpList_store_w ?_ 29 (.tmp 4) (.tmp 10) ?_ ?_ ?_ SN.out ?_); rotate_left; rfl; rfl; rfl; rotate_left; rfl)))
 try simp only [Act.put]
 try go_wp2_with fail
 generalize (w2.alloc (.cells x.cells 29)) = W3 at *
 generalize w2.heap.size = N at *
 have XD := hide (X3.out.below ((Below.refl _ _).drew))
 have ND := hide (NB.out.below ((Below.refl _ _).drew))
 have KD := hide (K3.out.bel ((Below.refl _ _).drew))
 clear X3 NB HR3 K3 SN
 refine regionL 8 (fun w' => IsB w' b (skL S (.map (some m))).toArray 171 ∧ IsB w' N x.cells 29) mixed ⟨XD.out.blk, ND.out⟩ (fun hHeld => ?_)
 generalize W3.drew = WD at *
 refine pkA (v := ?_) 0 (some 33) rfl rfl ?_ (by assumption) ?_
 rotate_left
 · intro w'
   go_simp
   try with_reducible rfl
 try simp only [Act.put, zqa, zqb, zqc]
 refine pkL (v := .agg #[.int .i64 x.rk, .int .u64 x.kn]) 1 (some 34) rfl rfl ?_ (by assumption) ?_
 · intro w' hSw
   obtain ⟨q0, q1⟩ := hSw
   exact exec_load rfl rfl (ld_key q1)
 try simp only [Act.put, zqa, zqb, zqc]
 refine pkA (v := ?_) 2 (some 35) rfl rfl ?_ (by assumption) ?_
 rotate_left
 · intro w'
   go_simp
   try with_reducible rfl
 try simp only [Act.put, zqa, zqb, zqc]
 refine pkA (v := ?_) 3 (some 36) rfl rfl ?_ (by assumption) ?_
 rotate_left
 · intro w'
   go_simp
   try with_reducible rfl
 try simp only [Act.put, zqa, zqb, zqc]
 refine pkA (v := ?_) 4 (some 37) rfl rfl ?_ (by assumption) ?_
 rotate_left
 · intro w'
   go_simp
   try with_reducible rfl
 try simp only [Act.put, zqa, zqb, zqc]
 refine pkL (v := .agg #[.int .i64 S.tr, .int .u64 S.tn]) 5 (some 38) rfl rfl ?_ (by assumption) ?_
 · intro w' hSw
   obtain ⟨q0, q1⟩ := hSw
   exact exec_load rfl rfl (ld_target q0)
 try simp only [Act.put, zqa, zqb, zqc]
 refine oneL (i := 6) (by kernel_rfl) rfl (fun K hK => ?_)
 go_simp
 refine (kLess_any x.rk x.kn S.tr S.tn WD).mono ?_
 rintro e w4 ⟨rfl, hg⟩
 rw [HL.out]
 have X4 := hide (XD.out.below hg.below)
 have N4 := hide (ND.out.below hg.below)
 have K4 := hide (KD.out.bel hg.below)
 clear hg
 refine hK.out _ _ ?_ ?_
 · exact ⟨X4.out.blk, N4.out⟩
 clear hK K
 try simp only [Act.put, zqa, zqb, zqc]
 clear hHeld
 have hHeld : (fun w' => IsB w' b (skL S (.map (some m))).toArray 171 ∧ IsB w' N x.cells 29) w4 := ⟨X4.out.blk, N4.out⟩
 refine pkA (v := ?_) 7 (some 32) rfl rfl ?_ (by assumption) ?_
 rotate_left
 · intro w'
   go_simp
   try with_reducible rfl
 try simp only [Act.put, zqa, zqb, zqc]
 refine doneL (by kernel_rfl) ?_ _
 clear hHeld
 have LN := hide (load_ref N4.out rfl)
 obtain ⟨w5, hs5, I5, k5⟩ := st_ahead X4.out.blk x
 obtain ⟨w6, hs6, I6, k6⟩ := st_looks I5 true
 have HS5 := hide hs5
 have HS6 := hide hs6
 have F6 : Hid (SkAt w6 b m { S with ah := x, lk := true } ws ∧ Kp [b, m] w w6) := ⟨X4.out.turn (k5.tr k6) I6, K4.out.tr (k5.tr k6).wide⟩
 clear hs5 hs6 I5 I6 k5 k6
 go_wp2_with (first | (focus ((with_reducible refine wpList_load_w ?_ 29 (.tmp 4) ?_ ?_ LN.out ?_); rotate_left; rfl; rfl; rotate_left; rfl)) | (focus ((with_reducible refine wpList_store_w ?_ 29 (.tmp 44) (.tmp 42) ?_ ?_ ?_ HS5.out ?_); rotate_left; rfl; rfl; rfl; rotate_left; rfl)) | (focus ((with_reducible refine wpList_store_w ?_ 4 (.tmp 46) (.const (.bool true)) ?_ ?_ ?_ HS6.out ?_); rotate_left; rfl; rfl; rfl; rotate_left; rfl)))
 try simp only [Act.put]
 try go_wp2
 refine bodyPost_end (results_none rfl _ _ _) rfl ?_
 exact ⟨rfl, F6.out⟩

set_option maxHeartbeats 2000000 in
set_option maxRecDepth 100000 in
theorem goRight_down (b m : Nat) (S : Sk) (ws : List (Pl × Rf)) (r0 : Rf) (hid : (Lit.int .i64 r0.id).wf = true) (hok : ∀ x ∈ ws, (Lit.int .i64 x.2.id).wf = true) (hrt : rt S.wl S.wb = true) (hwb : 0 ≤ S.wb) (h0 : 0 ≤ S.n) (h1 : S.n ≤ 64) (x : Rf) (hE : liv ws S.wl S.wb S.pt r0 = some x) (hL : klt (x.rk, x.kn) (S.tr, S.tn) = false) (hpos : 0 < S.wl) (w : World) (hR : Ranks w) (X : SkAt w b m S ws) : Calls Tryz.prog 148 #[.pointer (some ⟨b, 0, none⟩), .agg r0.cells] w fun e w' => e = .returned (.tuple #[]) ∧ SkAt w' b m ({ S with wl := S.wl - 1, wb := ((pre S.wl.toNat S.wb.toNat (S.wl - 1).toNat : Nat) : Int), ah := zr, lk := false }) ws ∧ Kp [b, m] w w' := by
 have mixed : Tryz.prog.follows .mixedOrders = true := by kernel_rfl
 have b1 := (Below.refl w.heap.size w).alloc (Nat.le_refl _) (.cells r0.cells 29)
 have RB := IsB.new w r0.cells 29
 have X1 := hide (X.below b1)
 have HR := hide (hR.below b1)
 have KZ : Hid (Kp [b, m] w (w.alloc (.cells r0.cells 29))) := Kp.of_below b1
 have L1 := hide (load_ref RB rfl)
 have LV := hide (living_any b m S ws r0 hid hok (rt_wf hrt hwb).1 (rt_wf hrt hwb).2 _ (hR.below b1) (X.below b1))
 rw [hE] at LV
 clear b1 RB X hR hE hid hok
 replace h0 := hide h0
 replace h1 := hide h1
 replace hrt := hide hrt
 replace hwb := hide hwb
 have HL := hide hL
 have hw32 : S.wl ≤ 32 := (of_decide_eq_true hrt.out).2.1
 have hwr : IntKind.i64.wrap (S.wl - 1) = S.wl - 1 := by
   exact wrap_pos _ (by omega) (by omega)
 have hdp : decide (0 < S.wl) = true := decide_eq_true hpos
 have PX : Hid (∀ W, Calls Tryz.prog 88 #[(.agg #[.int .i64 (S.wl), .int .u64 (S.wb)]), .int .i64 (S.wl - 1)] W fun e w' => e = .returned (.tuple #[(.agg #[.int .i64 (S.wl - 1), .int .u64 (((pre S.wl.toNat S.wb.toNat (S.wl - 1).toNat : Nat) : Int))]), .int .i64 0]) ∧ Below W.heap.size W w') := fun W => prefix_ok S.wl S.wb (S.wl - 1) hrt.out hwb.out (by omega) (by omega) W
 obtain ⟨PV, hPV⟩ : ∃ PV : Int, ((pre S.wl.toNat S.wb.toNat (S.wl - 1).toNat : Nat) : Int) = PV := ⟨_, rfl⟩
 rw [hPV] at PX ⊢
 clear hPV
 replace hpos := hide hpos
 clear hL
 go_enter Tryz.func148, Tryz.ntmps148
 go_wp2_with (first | (focus ((with_reducible refine wpList_load_w ?_ 29 (.tmp 3) ?_ ?_ L1.out ?_); rotate_left; rfl; rfl; rotate_left; rfl)))
 refine LV.out.mono ?_
 rintro e w2 ⟨rfl, hb⟩
 have X2 := X1.out.below hb
 have HR2 := HR.out.below hb
 have K2 := KZ.out.bel hb
 simp only [Option.getD, Option.isSome]
 have bN := (Below.refl w2.heap.size w2).alloc (Nat.le_refl _) (.cells (x).cells 29)
 have NB := hide (IsB.new w2 (x).cells 29)
 have X3 := hide (X2.below bN)
 have HR3 := hide (HR2.below bN)
 have K3 := hide (K2.bel bN)
 have SN := hide (store_new w2 (x))
 clear hb bN X2 HR2 K2 LV L1 X1 HR KZ
 go_wp2_with (first | (focus ((with_reducible refine wpList_store_w ?_ 29 (.tmp 4) (.tmp 10) ?_ ?_ ?_ SN.out ?_); rotate_left; rfl; rfl; rfl; rotate_left; rfl)))
 try simp only [Act.put]
 try go_wp2_with fail
 generalize (w2.alloc (.cells x.cells 29)) = W3 at *
 generalize w2.heap.size = N at *
 have XD := hide (X3.out.below ((Below.refl _ _).drew))
 have ND := hide (NB.out.below ((Below.refl _ _).drew))
 have KD := hide (K3.out.bel ((Below.refl _ _).drew))
 clear X3 NB HR3 K3 SN
 refine regionL 8 (fun w' => IsB w' b (skL S (.map (some m))).toArray 171 ∧ IsB w' N x.cells 29) mixed ⟨XD.out.blk, ND.out⟩ (fun hHeld => ?_)
 generalize W3.drew = WD at *
 refine pkA (v := ?_) 0 (some 33) rfl rfl ?_ (by assumption) ?_
 rotate_left
 · intro w'
   go_simp
   try with_reducible rfl
 try simp only [Act.put, zqa, zqb, zqc]
 refine pkL (v := .agg #[.int .i64 x.rk, .int .u64 x.kn]) 1 (some 34) rfl rfl ?_ (by assumption) ?_
 · intro w' hSw
   obtain ⟨q0, q1⟩ := hSw
   exact exec_load rfl rfl (ld_key q1)
 try simp only [Act.put, zqa, zqb, zqc]
 refine pkA (v := ?_) 2 (some 35) rfl rfl ?_ (by assumption) ?_
 rotate_left
 · intro w'
   go_simp
   try with_reducible rfl
 try simp only [Act.put, zqa, zqb, zqc]
 refine pkA (v := ?_) 3 (some 36) rfl rfl ?_ (by assumption) ?_
 rotate_left
 · intro w'
   go_simp
   try with_reducible rfl
 try simp only [Act.put, zqa, zqb, zqc]
 refine pkA (v := ?_) 4 (some 37) rfl rfl ?_ (by assumption) ?_
 rotate_left
 · intro w'
   go_simp
   try with_reducible rfl
 try simp only [Act.put, zqa, zqb, zqc]
 refine pkL (v := .agg #[.int .i64 S.tr, .int .u64 S.tn]) 5 (some 38) rfl rfl ?_ (by assumption) ?_
 · intro w' hSw
   obtain ⟨q0, q1⟩ := hSw
   exact exec_load rfl rfl (ld_target q0)
 try simp only [Act.put, zqa, zqb, zqc]
 refine oneL (i := 6) (by kernel_rfl) rfl (fun K hK => ?_)
 go_simp
 refine (kLess_any x.rk x.kn S.tr S.tn WD).mono ?_
 rintro e w4 ⟨rfl, hg⟩
 rw [HL.out]
 have X4 := hide (XD.out.below hg.below)
 have N4 := hide (ND.out.below hg.below)
 have K4 := hide (KD.out.bel hg.below)
 clear hg
 refine hK.out _ _ ?_ ?_
 · exact ⟨X4.out.blk, N4.out⟩
 clear hK K
 try simp only [Act.put, zqa, zqb, zqc]
 clear hHeld
 have hHeld : (fun w' => IsB w' b (skL S (.map (some m))).toArray 171 ∧ IsB w' N x.cells 29) w4 := ⟨X4.out.blk, N4.out⟩
 refine pkA (v := ?_) 7 (some 32) rfl rfl ?_ (by assumption) ?_
 rotate_left
 · intro w'
   go_simp
   try with_reducible rfl
 try simp only [Act.put, zqa, zqb, zqc]
 refine doneL (by kernel_rfl) ?_ _
 clear hHeld
 have y12 := cl_wl X4.out.blk
 go_wp2_with fail
 have XE := hide (X4.out.below ((Below.refl _ _).drew))
 have KE := hide (K4.out.bel ((Below.refl _ _).drew))
 clear y12 X4 K4
 refine regionL 17 (fun w' => IsB w' b (skL S (.map (some m))).toArray 171) mixed XE.out.blk (fun hHeld => ?_)
 generalize w4.drew = WE at *
 refine pkA (v := ?_) 0 (some 55) rfl rfl ?_ (by assumption) ?_
 rotate_left
 · intro w'
   go_simp
   try with_reducible rfl
 try simp only [Act.put, zqa, zqb, zqc]
 refine pkA (v := ?_) 1 (some 56) rfl rfl ?_ (by assumption) ?_
 rotate_left
 · intro w'
   go_simp
   try with_reducible rfl
 try simp only [Act.put, zqa, zqb, zqc]
 refine pkA (v := ?_) 2 (some 57) rfl rfl ?_ (by assumption) ?_
 rotate_left
 · intro w'
   go_simp
   try with_reducible rfl
 try simp only [Act.put, zqa, zqb, zqc]
 refine pkA (v := ?_) 3 (some 58) rfl rfl ?_ (by assumption) ?_
 rotate_left
 · intro w'
   go_simp
   try with_reducible rfl
 try simp only [Act.put, zqa, zqb, zqc]
 refine pkL (v := .agg #[.int .i64 S.wl, .int .u64 S.wb]) 4 (some 59) rfl rfl ?_ (by assumption) ?_
 · intro w' hSw
   have q0 := hSw
   exact exec_load rfl rfl (ld_list q0)
 try simp only [Act.put, zqa, zqb, zqc]
 refine pkA (v := ?_) 5 (some 60) rfl rfl ?_ (by assumption) ?_
 rotate_left
 · intro w'
   go_simp
   try with_reducible rfl
 try simp only [Act.put, zqa, zqb, zqc]
 refine pkA (v := ?_) 6 (some 61) rfl rfl ?_ (by assumption) ?_
 rotate_left
 · intro w'
   go_simp
   try with_reducible rfl
 try simp only [Act.put, zqa, zqb, zqc]
 refine pkA (v := ?_) 7 (some 62) rfl rfl ?_ (by assumption) ?_
 rotate_left
 · intro w'
   go_simp
   try with_reducible rfl
 try simp only [Act.put, zqa, zqb, zqc]
 refine pkA (v := ?_) 8 (some 63) rfl rfl ?_ (by assumption) ?_
 rotate_left
 · intro w'
   go_simp
   try with_reducible rfl
 try simp only [Act.put, zqa, zqb, zqc]
 refine pkL (v := .int .i64 S.wl) 9 (some 64) rfl rfl ?_ (by assumption) ?_
 · intro w' hSw
   have q0 := hSw
   have y12 := cl_wl q0
   go_simp
 try simp only [Act.put, zqa, zqb, zqc]
 refine pkA (v := .int .i64 (S.wl - 1)) 10 (some 65) rfl rfl ?_ (by assumption) ?_
 · intro w'
   go_simp
   try with_reducible rfl
 try simp only [Act.put, zqa, zqb, zqc]
 refine oneL (i := 11) (by kernel_rfl) rfl (fun K hK => ?_)
 go_simp
 refine (PX.out WE).mono ?_
 rintro e w6 ⟨rfl, hb⟩
 have X6 := XE.out.below hb
 have K6 := KE.out.bel hb
 obtain ⟨w7, hs7, I7, k7⟩ := st_list X6.blk (S.wl - 1) PV
 have HS7 := hide hs7
 have X7 := hide (X6.turn k7 I7)
 have K7 := hide (K6.tr k7.wide)
 have X6h := hide X6
 clear hb hs7 I7 k7 X6 K6
 refine hK.out _ _ ?_ ?_
 · exact X6h.out.blk
 clear hK K
 try simp only [Act.put, zqa, zqb, zqc]
 clear hHeld
 have hHeld : (fun w' => IsB w' b (skL S (.map (some m))).toArray 171) w6 := X6h.out.blk
 refine pkA (v := ?_) 12 (some 54) rfl rfl ?_ (by assumption) ?_
 rotate_left
 · intro w'
   go_simp
   try with_reducible rfl
 try simp only [Act.put, zqa, zqb, zqc]
 refine pkA (v := ?_) 13 (some 67) rfl rfl ?_ (by assumption) ?_
 rotate_left
 · intro w'
   go_simp
   try with_reducible rfl
 try simp only [Act.put, zqa, zqb, zqc]
 refine pkA (v := ?_) 14 (some 68) rfl rfl ?_ (by assumption) ?_
 rotate_left
 · intro w'
   go_simp
   try with_reducible rfl
 try simp only [Act.put, zqa, zqb, zqc]
 refine pkA (v := ?_) 15 (some 69) rfl rfl ?_ (by assumption) ?_
 rotate_left
 · intro w'
   go_simp
   try with_reducible rfl
 try simp only [Act.put, zqa, zqb, zqc]
 refine pkA (v := ?_) 16 (some 70) rfl rfl ?_ (by assumption) ?_
 rotate_left
 · intro w'
   go_simp
   try with_reducible rfl
 try simp only [Act.put, zqa, zqb, zqc]
 refine lateL (i := 17) (by kernel_rfl) rfl (by decide) (by kernel_rfl) (fun K hK => ?_)
 refine step_store_w rfl 27 (.tmp 70) (.tmp 67) rfl rfl rfl HS7.out ?_
 refine hK.out _ _ ?_
 clear hK K
 try simp only [Act.put, List.setIfInBounds_toArray]
 refine doneL (by kernel_rfl) ?_ _
 clear hHeld
 have LH := hide (ld_here X7.out.blk)
 have SD := hide (stand_any b m _ ws S.pt w7 X7.out)
 simp only [] at LH
 go_wp2_with (first | (focus ((with_reducible refine wpList_load_w ?_ 29 (.tmp 74) ?_ ?_ LH.out ?_); rotate_left; rfl; rfl; rotate_left; rfl)))
 refine SD.out.mono ?_
 rintro e w9 ⟨rfl, X9, K9⟩
 have F9 := hide X9
 have K10 := hide (K7.out.tr K9)
 clear SD X9 K9 LH
 go_wp2
 refine bodyPost_end (results_none rfl _ _ _) rfl ?_
 exact ⟨rfl, F9.out, K10.out⟩

set_option maxHeartbeats 2000000 in
set_option maxRecDepth 100000 in
theorem goRight_over (b m : Nat) (S : Sk) (ws : List (Pl × Rf)) (r0 : Rf) (hid : (Lit.int .i64 r0.id).wf = true) (hok : ∀ x ∈ ws, (Lit.int .i64 x.2.id).wf = true) (hrt : rt S.wl S.wb = true) (hwb : 0 ≤ S.wb) (h0 : 0 ≤ S.n) (h1 : S.n ≤ 64) (x : Rf) (hE : liv ws S.wl S.wb S.pt r0 = some x) (hL : klt (x.rk, x.kn) (S.tr, S.tn) = false) (hpos : ¬0 < S.wl) (w : World) (hR : Ranks w) (X : SkAt w b m S ws) : Calls Tryz.prog 148 #[.pointer (some ⟨b, 0, none⟩), .agg r0.cells] w fun e w' => e = .returned (.tuple #[]) ∧ SkAt w' b m ({ S with ov := true, e := 0, rl := S.pt, rr := x, fd := x.rk == S.tr && x.kn == S.tn }) ws ∧ Kp [b, m] w w' := by
 have mixed : Tryz.prog.follows .mixedOrders = true := by kernel_rfl
 have b1 := (Below.refl w.heap.size w).alloc (Nat.le_refl _) (.cells r0.cells 29)
 have RB := IsB.new w r0.cells 29
 have X1 := hide (X.below b1)
 have HR := hide (hR.below b1)
 have KZ : Hid (Kp [b, m] w (w.alloc (.cells r0.cells 29))) := Kp.of_below b1
 have L1 := hide (load_ref RB rfl)
 have LV := hide (living_any b m S ws r0 hid hok (rt_wf hrt hwb).1 (rt_wf hrt hwb).2 _ (hR.below b1) (X.below b1))
 rw [hE] at LV
 clear b1 RB X hR hE hid hok
 replace h0 := hide h0
 replace h1 := hide h1
 replace hrt := hide hrt
 replace hwb := hide hwb
 have HL := hide hL
 have hdp : decide (0 < S.wl) = false := decide_eq_false hpos
 replace hpos := hide hpos
 clear hL
 go_enter Tryz.func148, Tryz.ntmps148
 go_wp2_with (first | (focus ((with_reducible refine wpList_load_w ?_ 29 (.tmp 3) ?_ ?_ L1.out ?_); rotate_left; rfl; rfl; rotate_left; rfl)))
 refine LV.out.mono ?_
 rintro e w2 ⟨rfl, hb⟩
 have X2 := X1.out.below hb
 have HR2 := HR.out.below hb
 have K2 := KZ.out.bel hb
 simp only [Option.getD, Option.isSome]
 have bN := (Below.refl w2.heap.size w2).alloc (Nat.le_refl _) (.cells (x).cells 29)
 have NB := hide (IsB.new w2 (x).cells 29)
 have X3 := hide (X2.below bN)
 have HR3 := hide (HR2.below bN)
 have K3 := hide (K2.bel bN)
 have SN := hide (store_new w2 (x))
 clear hb bN X2 HR2 K2 LV L1 X1 HR KZ
 go_wp2_with (first | (focus ((with_reducible refine wpList_store_w ?_ 29 (.tmp 4) (.tmp 10) ?_ ?_ ?_ SN.out ?_); rotate_left; rfl; rfl; rfl; rotate_left; rfl)))
 try simp only [Act.put]
 try go_wp2_with fail
 generalize (w2.alloc (.cells x.cells 29)) = W3 at *
 generalize w2.heap.size = N at *
 have XD := hide (X3.out.below ((Below.refl _ _).drew))
 have ND := hide (NB.out.below ((Below.refl _ _).drew))
 have KD := hide (K3.out.bel ((Below.refl _ _).drew))
 clear X3 NB HR3 K3 SN
 refine regionL 8 (fun w' => IsB w' b (skL S (.map (some m))).toArray 171 ∧ IsB w' N x.cells 29) mixed ⟨XD.out.blk, ND.out⟩ (fun hHeld => ?_)
 generalize W3.drew = WD at *
 refine pkA (v := ?_) 0 (some 33) rfl rfl ?_ (by assumption) ?_
 rotate_left
 · intro w'
   go_simp
   try with_reducible rfl
 try simp only [Act.put, zqa, zqb, zqc]
 refine pkL (v := .agg #[.int .i64 x.rk, .int .u64 x.kn]) 1 (some 34) rfl rfl ?_ (by assumption) ?_
 · intro w' hSw
   obtain ⟨q0, q1⟩ := hSw
   exact exec_load rfl rfl (ld_key q1)
 try simp only [Act.put, zqa, zqb, zqc]
 refine pkA (v := ?_) 2 (some 35) rfl rfl ?_ (by assumption) ?_
 rotate_left
 · intro w'
   go_simp
   try with_reducible rfl
 try simp only [Act.put, zqa, zqb, zqc]
 refine pkA (v := ?_) 3 (some 36) rfl rfl ?_ (by assumption) ?_
 rotate_left
 · intro w'
   go_simp
   try with_reducible rfl
 try simp only [Act.put, zqa, zqb, zqc]
 refine pkA (v := ?_) 4 (some 37) rfl rfl ?_ (by assumption) ?_
 rotate_left
 · intro w'
   go_simp
   try with_reducible rfl
 try simp only [Act.put, zqa, zqb, zqc]
 refine pkL (v := .agg #[.int .i64 S.tr, .int .u64 S.tn]) 5 (some 38) rfl rfl ?_ (by assumption) ?_
 · intro w' hSw
   obtain ⟨q0, q1⟩ := hSw
   exact exec_load rfl rfl (ld_target q0)
 try simp only [Act.put, zqa, zqb, zqc]
 refine oneL (i := 6) (by kernel_rfl) rfl (fun K hK => ?_)
 go_simp
 refine (kLess_any x.rk x.kn S.tr S.tn WD).mono ?_
 rintro e w4 ⟨rfl, hg⟩
 rw [HL.out]
 have X4 := hide (XD.out.below hg.below)
 have N4 := hide (ND.out.below hg.below)
 have K4 := hide (KD.out.bel hg.below)
 clear hg
 refine hK.out _ _ ?_ ?_
 · exact ⟨X4.out.blk, N4.out⟩
 clear hK K
 try simp only [Act.put, zqa, zqb, zqc]
 clear hHeld
 have hHeld : (fun w' => IsB w' b (skL S (.map (some m))).toArray 171 ∧ IsB w' N x.cells 29) w4 := ⟨X4.out.blk, N4.out⟩
 refine pkA (v := ?_) 7 (some 32) rfl rfl ?_ (by assumption) ?_
 rotate_left
 · intro w'
   go_simp
   try with_reducible rfl
 try simp only [Act.put, zqa, zqb, zqc]
 refine doneL (by kernel_rfl) ?_ _
 clear hHeld
 have y12 := cl_wl X4.out.blk
 go_wp2_with fail
 have XE := hide (X4.out.below ((Below.refl _ _).drew))
 have NE := hide (N4.out.below ((Below.refl _ _).drew))
 have KE := hide (K4.out.bel ((Below.refl _ _).drew))
 clear y12 X4 K4
 refine regionL 14 (fun w' => IsB w' b (skL S (.map (some m))).toArray 171 ∧ IsB w' N x.cells 29) mixed ⟨XE.out.blk, NE.out⟩ (fun hHeld => ?_)
 generalize w4.drew = WE at *
 refine pkA (v := ?_) 0 (some 12) rfl rfl ?_ (by assumption) ?_
 rotate_left
 · intro w'
   go_simp
   try with_reducible rfl
 try simp only [Act.put, zqa, zqb, zqc]
 refine pkA (v := ?_) 1 (some 13) rfl rfl ?_ (by assumption) ?_
 rotate_left
 · intro w'
   go_simp
   try with_reducible rfl
 try simp only [Act.put, zqa, zqb, zqc]
 refine pkA (v := ?_) 2 (some 14) rfl rfl ?_ (by assumption) ?_
 rotate_left
 · intro w'
   go_simp
   try with_reducible rfl
 try simp only [Act.put, zqa, zqb, zqc]
 refine pkA (v := ?_) 3 (some 15) rfl rfl ?_ (by assumption) ?_
 rotate_left
 · intro w'
   go_simp
   try with_reducible rfl
 try simp only [Act.put, zqa, zqb, zqc]
 refine pkT (v := .agg S.pt.cells) 4 (some 16) rfl rfl ?_ (by assumption) ?_
 · intro w' hSw
   obtain ⟨q0, q1⟩ := hSw
   exact exec_load rfl rfl (ld_here q0)
 try simp only [Act.put, zqa, zqb, zqc]
 refine pkT (v := .agg x.cells) 5 (some 17) rfl rfl ?_ (by assumption) ?_
 · intro w' hSw
   obtain ⟨q0, q1⟩ := hSw
   exact exec_load rfl rfl (load_ref q1 rfl)
 try simp only [Act.put, zqa, zqb, zqc]
 refine pkA (v := ?_) 6 (some 18) rfl rfl ?_ (by assumption) ?_
 rotate_left
 · intro w'
   go_simp
   try with_reducible rfl
 try simp only [Act.put, zqa, zqb, zqc]
 refine pkT (v := .agg #[.int .i64 x.rk, .int .u64 x.kn]) 7 (some 19) rfl rfl ?_ (by assumption) ?_
 · intro w' hSw
   obtain ⟨q0, q1⟩ := hSw
   exact exec_load rfl rfl (ld_key q1)
 try simp only [Act.put, zqa, zqb, zqc]
 refine pkA (v := ?_) 8 (some 20) rfl rfl ?_ (by assumption) ?_
 rotate_left
 · intro w'
   go_simp
   try with_reducible rfl
 try simp only [Act.put, zqa, zqb, zqc]
 refine pkA (v := ?_) 9 (some 21) rfl rfl ?_ (by assumption) ?_
 rotate_left
 · intro w'
   go_simp
   try with_reducible rfl
 try simp only [Act.put, zqa, zqb, zqc]
 refine pkA (v := ?_) 10 (some 22) rfl rfl ?_ (by assumption) ?_
 rotate_left
 · intro w'
   go_simp
   try with_reducible rfl
 try simp only [Act.put, zqa, zqb, zqc]
 refine pkT (v := .agg #[.int .i64 S.tr, .int .u64 S.tn]) 11 (some 23) rfl rfl ?_ (by assumption) ?_
 · intro w' hSw
   obtain ⟨q0, q1⟩ := hSw
   exact exec_load rfl rfl (ld_target q0)
 try simp only [Act.put, zqa, zqb, zqc]
 refine pkA (v := .bool (x.rk == S.tr && x.kn == S.tn)) 12 (some 24) rfl rfl ?_ (by assumption) ?_
 · intro w'
   exact exec_bin kguard rfl rfl rfl (eqk _ _ _ _ _)
 try simp only [Act.put, zqa, zqb, zqc]
 refine pkA (v := .agg (rsL 0 S.pt x (x.rk == S.tr && x.kn == S.tn)).toArray) 13 (some 25) rfl rfl ?_ (by assumption) ?_
 · intro w'
   kernel_rfl
 try simp only [Act.put, zqa, zqb, zqc]
 refine lateL (i := 14) (by kernel_rfl) rfl (by decide) (by kernel_rfl) (fun K hK => ?_)
 go_simp
 refine (end_any b m S ws 0 S.pt x (x.rk == S.tr && x.kn == S.tn) WE XE.out).mono ?_
 rintro e w6 ⟨rfl, X6, K6⟩
 have F6 := hide X6
 have K7 := hide (KE.out.tr K6)
 clear X6 K6
 refine hK.out _ _ ?_
 clear hK K
 try simp only [Act.put, zqa, zqb, zqc]
 refine doneL (by kernel_rfl) ?_ _
 clear hHeld
 go_wp2
 refine bodyPost_end (results_none rfl _ _ _) rfl ?_
 exact ⟨rfl, F6.out, K7.out⟩

theorem goRight_any (b m : Nat) (S : Sk) (ws : List (Pl × Rf)) (r0 : Rf) (hid : (Lit.int .i64 r0.id).wf = true) (hok : ∀ x ∈ ws, (Lit.int .i64 x.2.id).wf = true) (hrt : rt S.wl S.wb = true) (hwb : 0 ≤ S.wb) (h0 : 0 ≤ S.n) (h1 : S.n ≤ 64) (w : World) (hR : Ranks w) (X : SkAt w b m S ws) : Calls Tryz.prog 148 #[.pointer (some ⟨b, 0, none⟩), .agg r0.cells] w fun e w' => e = .returned (.tuple #[]) ∧ SkAt w' b m (S.right ws r0) ws ∧ Kp [b, m] w w' := by
 unfold Sk.right
 cases hE : liv ws S.wl S.wb S.pt r0 with
 | none => exact goRight_none b m S ws r0 hid hok hrt hwb h0 h1 hE w hR X
 | some x =>
   show Calls _ _ _ _ fun e w' => e = .returned (.tuple #[]) ∧ SkAt w' b m (S.next x) ws ∧ Kp [b, m] w w'
   unfold Sk.next
   cases hL : klt (x.rk, x.kn) (S.tr, S.tn) with
   | true =>
     rw [if_pos rfl]
     exact goRight_look b m S ws r0 hid hok hrt hwb h0 h1 x hE hL w hR X
   | false =>
     rw [if_neg (by decide)]
     by_cases hpos : 0 < S.wl
     · rw [if_pos hpos]
       exact goRight_down b m S ws r0 hid hok hrt hwb h0 h1 x hE hL hpos w hR X
     · rw [if_neg hpos]
       exact goRight_over b m S ws r0 hid hok hrt hwb h0 h1 x hE hL hpos w hR X

end Go.Proofs.YtokehogcenjefaaGreatDoor
