/- The document's Dead, Next. -/
import Derived.Test.YtdkadggcaobaaaaDoorDG
import Derived.Test.YtdkadggcaobaaaaDoorSJ
namespace Go.Proofs.YtdkadggcaobaaaaDoor
open Go.RowKit Go.Maps Go.ChangeMaps

theorem st_sto {w : World} {b : Nat} {k : Int} {r : Rf} {q x y e : Int} {l r2 : Rf} {f : Bool} (I : IsB w b (spL k r q x y e l r2 f).toArray 57) (r' : Rf) : ∃ w', (Instr.storeAt 29 (.pointer (some ⟨b, 1, none⟩)) (.agg r'.cells)).run Tryd.prog w = .ok () w' ∧ IsB w' b (spL k r' q x y e l r2 f).toArray 57 ∧ Kp [b] w w' :=
  store_mid I 1 _ r'.cs (by simp [spL, Rf.cs]) (by kernel_rfl) (by simp [Rf.cs, Value.oneCell'])
theorem ld_step {w : World} {b : Nat} {k : Int} {r : Rf} {q x y e : Int} {l r2 : Rf} {f : Bool} (I : IsB w b (spL k r q x y e l r2 f).toArray 57) : (Instr.loadAt 57 (.pointer (some ⟨b, 0, none⟩))).run Tryd.prog w = .ok (.agg (spL k r q x y e l r2 f).toArray) w := load_mid I 0 _ (spL k r q x y e l r2 f) _ rfl Tryd.underlying57 rfl (by kernel_rfl)
/-- The wills behind a word of who was found. -/
def Sk.deadL (S : Sk) (L : List Wl) (a : An) : List Wl := if S.ov = true ∧ S.e = 0 then keepL L (S.wil S.rr a) else L

set_option maxHeartbeats 2000000 in
set_option maxRecDepth 100000 in
theorem ddead_not (d base : Nat) (S : Sk) (s : Rf) (L : List Wl) (a : An) (hov : S.ov = false) (w : World) (X : Dk w d base S s L) : Calls Tryd.prog 14 #[.pointer (some ⟨d, 0, none⟩), .agg (anL a).toArray] w fun e' w' => e' = .returned (.tuple #[]) ∧ Dk w' d base (S) s L ∧ Kd base w w' := by
  have b1 := (Below.refl w.heap.size w).alloc (Nat.le_refl _) (.cells (anL a).toArray 45)
  have A := hide (IsB.new w (anL a).toArray 45)
  obtain ⟨to, v, hto, X0⟩ := X
  have XX := hide (X0.below b1)
  have KK : Hid (Kd base w (w.alloc (.cells (anL a).toArray 45))) := Kd.of_below b1
  have y23 := c_ov XX.out.blk
  rw [hov] at y23
  clear b1 X0
  go_enter Tryd.func14, Tryd.ntmps14
  go_wp2_with fail
  refine bodyPost_ret (results_none rfl _ _ _) rfl ?_
  exact ⟨rfl, ⟨to, v, hto, XX.out⟩, KK.out⟩

set_option maxHeartbeats 2000000 in
set_option maxRecDepth 100000 in
theorem ddead_bad (d base : Nat) (S : Sk) (s : Rf) (L : List Wl) (a : An) (hov : S.ov = true) (he : ¬S.e = 0) (w : World) (X : Dk w d base S s L) : Calls Tryd.prog 14 #[.pointer (some ⟨d, 0, none⟩), .agg (anL a).toArray] w fun e' w' => e' = .returned (.tuple #[]) ∧ Dk w' d base (S) s L ∧ Kd base w w' := by
  have b1 := (Below.refl w.heap.size w).alloc (Nat.le_refl _) (.cells (anL a).toArray 45)
  have A := hide (IsB.new w (anL a).toArray 45)
  obtain ⟨to, v, hto, X0⟩ := X
  have XX := hide (X0.below b1)
  have KK : Hid (Kd base w (w.alloc (.cells (anL a).toArray 45))) := Kd.of_below b1
  have y23 := c_ov XX.out.blk
  rw [hov] at y23
  have y24 := c_e XX.out.blk
  have e1 : (S.e != 0) = true := by simpa using he
  clear b1 X0
  go_enter Tryd.func14, Tryd.ntmps14
  go_wp2_with fail
  refine bodyPost_ret (results_none rfl _ _ _) rfl ?_
  exact ⟨rfl, ⟨to, v, hto, XX.out⟩, KK.out⟩

set_option maxHeartbeats 2000000 in
set_option maxRecDepth 100000 in
theorem ddead_no (d base : Nat) (S : Sk) (s : Rf) (L : List Wl) (a : An) (hov : S.ov = true) (he : S.e = 0) (hL : L.length ≤ 1000000) (hn : S.n = 64) (w : World) (X : Dk w d base S s L) : Calls Tryd.prog 14 #[.pointer (some ⟨d, 0, none⟩), .agg (anL a).toArray] w fun e' w' => e' = .returned (.tuple #[]) ∧ Dk w' d base (S.passed) s (keepL L (S.wil S.rr a)) ∧ Kd base w w' := by
  have b1 := (Below.refl w.heap.size w).alloc (Nat.le_refl _) (.cells (anL a).toArray 45)
  have A := hide (IsB.new w (anL a).toArray 45)
  obtain ⟨to, v, hto, X0⟩ := X
  have XX := hide (X0.below b1)
  have KK : Hid (Kd base w (w.alloc (.cells (anL a).toArray 45))) := Kd.of_below b1
  have y23 := c_ov XX.out.blk
  rw [hov] at y23
  have y24 := c_e XX.out.blk
  rw [he] at y24
  have LR := hide (q_rr XX.out.blk)
  have SN0 := store_new (w.alloc (.cells (anL a).toArray 45)) S.rr
  rw [World.size_alloc] at SN0
  have SN := hide SN0
  have b2 := (Below.refl (w.alloc (.cells (anL a).toArray 45)).heap.size (w.alloc (.cells (anL a).toArray 45))).alloc (Nat.le_refl _) (.cells S.rr.cells 29)
  have R0 := IsB.new (w.alloc (.cells (anL a).toArray 45)) S.rr.cells 29
  rw [World.size_alloc] at R0
  have X2 := XX.out.below b2
  have A2 := A.out.below b2
  obtain ⟨w2, hs2, I2, k2⟩ := u_ov X2.blk false
  obtain ⟨w3, hs3, I3, k3⟩ := u_res I2 0 zr zr false
  have T := X2.turn (S' := { S with ov := false, e := 0, rl := zr, rr := zr, fd := false }) (k2.tr k3) I3
  have HS2 := hide hs2
  have HS3 := hide hs3
  have R3 := hide (R0.kp (k2.tr k3) (by simp only [List.mem_singleton]; exact fun e => ne_ty X2.blk R0 (by decide) e.symm))
  have A3 := hide (A2.kp (k2.tr k3) (by simp only [List.mem_singleton]; exact fun e => ne_ty X2.blk A2 (by decide) e.symm))
  have K3 : Hid (Kd base w w3) := (KK.out.bel b2).tr T.2
  have X3 : Hid (Dk w3 d base { S with ov := false, e := 0, rl := zr, rr := zr, fd := false } s L) := ⟨to, v, hto, T.1⟩
  have LA := hide (ld_ans A3.out)
  have LB := hide (load_ref R3.out rfl)
  clear b1 X0 b2 SN0 hs2 hs3 I2 I3 k2 k3 T X2 A2 R0 KK
  have KE := hide (keep_any2 d base { S with ov := false, e := 0, rl := zr, rr := zr, fd := false } s L hL S.rr a _ X3.out)
  clear X3 XX A
  go_enter Tryd.func14, Tryd.ntmps14
  go_wp2_with (first | (focus ((with_reducible refine wpList_load_w ?_ 29 (.tmp 21) ?_ ?_ LR.out ?_); rotate_left; rfl; rfl; rotate_left; rfl)) | (focus ((with_reducible refine wpList_store_w ?_ 29 (.tmp 4) (.tmp 22) ?_ ?_ ?_ SN.out ?_); rotate_left; rfl; rfl; rfl; rotate_left; rfl)) | (focus ((with_reducible refine wpList_store_w ?_ 4 (.tmp 27) (.const (.bool false)) ?_ ?_ ?_ HS2.out ?_); rotate_left; rfl; rfl; rfl; rotate_left; rfl)) | (focus ((with_reducible refine wpList_store_w ?_ 55 (.tmp 29) (.tmp 25) ?_ ?_ ?_ HS3.out ?_); rotate_left; rfl; rfl; rfl; rotate_left; rfl)) | (focus ((with_reducible refine wpList_load_w ?_ 29 (.tmp 4) ?_ ?_ LB.out ?_); rotate_left; rfl; rfl; rotate_left; rfl)) | (focus ((with_reducible refine wpList_load_w ?_ 45 (.tmp 3) ?_ ?_ LA.out ?_); rotate_left; rfl; rfl; rotate_left; rfl)))
  refine KE.out.mono ?_
  rintro e w4 ⟨rfl, X4, K4⟩
  have D4 : Hid (Dk w4 d base { S with ov := false, e := 0, rl := zr, rr := zr, fd := false } s (keepL L (S.wil S.rr a))) := X4
  have KK4 := hide (K3.out.tr K4)
  clear X4 K4 KE y23 y24 LR SN HS2 HS3 LA LB R3 A3 K3
  have CT := hide (counts_no d base { S with ov := false, e := 0, rl := zr, rr := zr, fd := false } s _ hn w4 D4.out)
  have HP : Hid (S.passed = Sk.busy { S with ov := false, e := 0, rl := zr, rr := zr, fd := false }) := by show _ = _; unfold Sk.passed; rw [if_pos hn]; rfl
  go_wp2_with fail
  refine CT.out.mono ?_
  rintro e w9 ⟨rfl, X9, K9⟩
  have F6 : Hid (Dk w9 d base S.passed s (keepL L (S.wil S.rr a))) := by show Dk _ _ _ _ _ _; rw [HP.out]; exact X9
  have K7 := hide (KK4.out.tr K9)
  clear X9 K9 CT
  try go_wp2
  refine bodyPost_end (results_none rfl _ _ _) rfl ?_
  exact ⟨rfl, F6.out, K7.out⟩

set_option maxHeartbeats 2000000 in
set_option maxRecDepth 100000 in
theorem ddead_yes (d base : Nat) (S : Sk) (s : Rf) (L : List Wl) (a : An) (hov : S.ov = true) (he : S.e = 0) (hL : L.length ≤ 1000000) (h0 : 0 ≤ S.n) (hn : S.n < 64) (w : World) (X : Dk w d base S s L) : Calls Tryd.prog 14 #[.pointer (some ⟨d, 0, none⟩), .agg (anL a).toArray] w fun e' w' => e' = .returned (.tuple #[]) ∧ Dk w' d base (S.passed) s (keepL L (S.wil S.rr a)) ∧ Kd base w w' := by
  have b1 := (Below.refl w.heap.size w).alloc (Nat.le_refl _) (.cells (anL a).toArray 45)
  have A := hide (IsB.new w (anL a).toArray 45)
  obtain ⟨to, v, hto, X0⟩ := X
  have XX := hide (X0.below b1)
  have KK : Hid (Kd base w (w.alloc (.cells (anL a).toArray 45))) := Kd.of_below b1
  have y23 := c_ov XX.out.blk
  rw [hov] at y23
  have y24 := c_e XX.out.blk
  rw [he] at y24
  have LR := hide (q_rr XX.out.blk)
  have SN0 := store_new (w.alloc (.cells (anL a).toArray 45)) S.rr
  rw [World.size_alloc] at SN0
  have SN := hide SN0
  have b2 := (Below.refl (w.alloc (.cells (anL a).toArray 45)).heap.size (w.alloc (.cells (anL a).toArray 45))).alloc (Nat.le_refl _) (.cells S.rr.cells 29)
  have R0 := IsB.new (w.alloc (.cells (anL a).toArray 45)) S.rr.cells 29
  rw [World.size_alloc] at R0
  have X2 := XX.out.below b2
  have A2 := A.out.below b2
  obtain ⟨w2, hs2, I2, k2⟩ := u_ov X2.blk false
  obtain ⟨w3, hs3, I3, k3⟩ := u_res I2 0 zr zr false
  have T := X2.turn (S' := { S with ov := false, e := 0, rl := zr, rr := zr, fd := false }) (k2.tr k3) I3
  have HS2 := hide hs2
  have HS3 := hide hs3
  have R3 := hide (R0.kp (k2.tr k3) (by simp only [List.mem_singleton]; exact fun e => ne_ty X2.blk R0 (by decide) e.symm))
  have A3 := hide (A2.kp (k2.tr k3) (by simp only [List.mem_singleton]; exact fun e => ne_ty X2.blk A2 (by decide) e.symm))
  have K3 : Hid (Kd base w w3) := (KK.out.bel b2).tr T.2
  have X3 : Hid (Dk w3 d base { S with ov := false, e := 0, rl := zr, rr := zr, fd := false } s L) := ⟨to, v, hto, T.1⟩
  have LA := hide (ld_ans A3.out)
  have LB := hide (load_ref R3.out rfl)
  clear b1 X0 b2 SN0 hs2 hs3 I2 I3 k2 k3 T X2 A2 R0 KK
  have KE := hide (keep_any2 d base { S with ov := false, e := 0, rl := zr, rr := zr, fd := false } s L hL S.rr a _ X3.out)
  clear X3 XX A
  go_enter Tryd.func14, Tryd.ntmps14
  go_wp2_with (first | (focus ((with_reducible refine wpList_load_w ?_ 29 (.tmp 21) ?_ ?_ LR.out ?_); rotate_left; rfl; rfl; rotate_left; rfl)) | (focus ((with_reducible refine wpList_store_w ?_ 29 (.tmp 4) (.tmp 22) ?_ ?_ ?_ SN.out ?_); rotate_left; rfl; rfl; rfl; rotate_left; rfl)) | (focus ((with_reducible refine wpList_store_w ?_ 4 (.tmp 27) (.const (.bool false)) ?_ ?_ ?_ HS2.out ?_); rotate_left; rfl; rfl; rfl; rotate_left; rfl)) | (focus ((with_reducible refine wpList_store_w ?_ 55 (.tmp 29) (.tmp 25) ?_ ?_ ?_ HS3.out ?_); rotate_left; rfl; rfl; rfl; rotate_left; rfl)) | (focus ((with_reducible refine wpList_load_w ?_ 29 (.tmp 4) ?_ ?_ LB.out ?_); rotate_left; rfl; rfl; rotate_left; rfl)) | (focus ((with_reducible refine wpList_load_w ?_ 45 (.tmp 3) ?_ ?_ LA.out ?_); rotate_left; rfl; rfl; rotate_left; rfl)))
  refine KE.out.mono ?_
  rintro e w4 ⟨rfl, X4, K4⟩
  have D4 : Hid (Dk w4 d base { S with ov := false, e := 0, rl := zr, rr := zr, fd := false } s (keepL L (S.wil S.rr a))) := X4
  have KK4 := hide (K3.out.tr K4)
  clear X4 K4 KE y23 y24 LR SN HS2 HS3 LA LB R3 A3 K3
  have CT := hide (counts_yes d base { S with ov := false, e := 0, rl := zr, rr := zr, fd := false } s _ h0 hn w4 D4.out)
  have HP : Hid (∀ to v, dkL { S with n := S.n + 1, ov := false, e := 0, rl := zr, rr := zr, fd := false, lk := false } s to v = dkL S.passed s to v) := by
    intro to v
    unfold Sk.passed
    rw [if_neg (by omega)]
    rfl
  go_wp2_with fail
  refine CT.out.mono ?_
  rintro e w8 ⟨rfl, ⟨to8, v8, -, X8⟩, K8⟩
  obtain ⟨w9, hs9, I9, k9⟩ := u_lk X8.blk false
  have T := X8.turn (S' := S.passed) k9 ((HP.out to8 v8) ▸ I9)
  have F6 : Hid (Dk w9 d base S.passed s (keepL L (S.wil S.rr a))) := ⟨to8, v8, fun c => passed_lk c (by omega), T.1⟩
  have K7 := hide ((KK4.out.tr K8).tr T.2)
  have HS9 := hide hs9
  clear X8 K8 hs9 I9 k9 T CT
  go_wp2_with (first | (focus ((with_reducible refine wpList_store_w ?_ 4 (.tmp 38) (.const (.bool false)) ?_ ?_ ?_ HS9.out ?_); rotate_left; rfl; rfl; rfl; rotate_left; rfl)))
  try go_wp2
  refine bodyPost_end (results_none rfl _ _ _) rfl ?_
  exact ⟨rfl, F6.out, K7.out⟩

theorem ddead_any (d base : Nat) (S : Sk) (s : Rf) (L : List Wl) (a : An) (P : Pre S L) (w : World) (X : Dk w d base S s L) : Calls Tryd.prog 14 #[.pointer (some ⟨d, 0, none⟩), .agg (anL a).toArray] w fun e' w' => e' = .returned (.tuple #[]) ∧ Dk w' d base (S.dead (L.map Wl.pr) a).1 s (S.deadL L a) ∧ Kd base w w' := by
  unfold Sk.dead Sk.deadL
  cases hov : S.ov with
  | false => rw [if_neg (fun c => by cases c.1), if_neg (fun c => by cases c.1)]; exact ddead_not d base S s L a hov w X
  | true =>
    by_cases he : S.e = 0
    · rw [if_pos ⟨rfl, he⟩, if_pos ⟨rfl, he⟩]
      by_cases hn : S.n = 64
      · exact ddead_no d base S s L a hov he P.hL hn w X
      · exact ddead_yes d base S s L a hov he P.hL P.h0 (by have := P.h1; omega) w X
    · rw [if_neg (fun c => he c.2), if_neg (fun c => he c.2)]; exact ddead_bad d base S s L a hov he w X

set_option maxHeartbeats 2000000 in
set_option maxRecDepth 100000 in
theorem dnext_over (d base : Nat) (S : Sk) (s : Rf) (L : List Wl) (hov : S.ov = true) (w : World) (X : Dk w d base S s L) : Calls Tryd.prog 17 #[.pointer (some ⟨d, 0, none⟩)] w fun e' w' => e' = .returned (.agg (spL 3 zr 0 0 0 S.e S.rl S.rr S.fd).toArray) ∧ Below w.heap.size w w' := by
  have b1 := (Below.refl w.heap.size w).alloc (Nat.le_refl _) (.cells #[.int .i64 0, .int .i64 0, .int .i64 0, .int .u64 0, .int .i64 0, .int .u64 0, .int .i64 0, .int .i64 0, .int .u64 0, .int .i64 0, .int .i64 0, .int .u64 0, .int .i64 0, .int .u64 0, .int .i64 0, .int .i64 0, .int .u64 0, .int .i64 0, .int .u64 0, .int .i64 0, .int .i64 0, .int .i64 0, .int .u64 0, .slice none 0 0, .slice none 0 0, .int .i64 0, .int .i64 0, .int .u64 0, .int .i64 0, .int .u64 0, .int .i64 0, .int .i64 0, .int .u64 0, .int .i64 0, .int .u64 0, .bool false] 57)
  have P0 : IsB (w.alloc (.cells #[.int .i64 0, .int .i64 0, .int .i64 0, .int .u64 0, .int .i64 0, .int .u64 0, .int .i64 0, .int .i64 0, .int .u64 0, .int .i64 0, .int .i64 0, .int .u64 0, .int .i64 0, .int .u64 0, .int .i64 0, .int .i64 0, .int .u64 0, .int .i64 0, .int .u64 0, .int .i64 0, .int .i64 0, .int .i64 0, .int .u64 0, .slice none 0 0, .slice none 0 0, .int .i64 0, .int .i64 0, .int .u64 0, .int .i64 0, .int .u64 0, .int .i64 0, .int .i64 0, .int .u64 0, .int .i64 0, .int .u64 0, .bool false] 57)) w.heap.size (spL 0 zr 0 0 0 0 zr zr false).toArray 57 := IsB.new w #[.int .i64 0, .int .i64 0, .int .i64 0, .int .u64 0, .int .i64 0, .int .u64 0, .int .i64 0, .int .i64 0, .int .u64 0, .int .i64 0, .int .i64 0, .int .u64 0, .int .i64 0, .int .u64 0, .int .i64 0, .int .i64 0, .int .u64 0, .int .i64 0, .int .u64 0, .int .i64 0, .int .i64 0, .int .i64 0, .int .u64 0, .slice none 0 0, .slice none 0 0, .int .i64 0, .int .i64 0, .int .u64 0, .int .i64 0, .int .u64 0, .int .i64 0, .int .i64 0, .int .u64 0, .int .i64 0, .int .u64 0, .bool false] 57
  obtain ⟨to, v, hto, X0⟩ := X
  have XX := hide (X0.below b1)
  have y23 := c_ov XX.out.blk
  rw [hov] at y23
  have LR : Hid ((Instr.loadAt 55 (.pointer (some ⟨d, 24, none⟩))).run Tryd.prog (w.alloc (.cells #[.int .i64 0, .int .i64 0, .int .i64 0, .int .u64 0, .int .i64 0, .int .u64 0, .int .i64 0, .int .i64 0, .int .u64 0, .int .i64 0, .int .i64 0, .int .u64 0, .int .i64 0, .int .u64 0, .int .i64 0, .int .i64 0, .int .u64 0, .int .i64 0, .int .u64 0, .int .i64 0, .int .i64 0, .int .i64 0, .int .u64 0, .slice none 0 0, .slice none 0 0, .int .i64 0, .int .i64 0, .int .u64 0, .int .i64 0, .int .u64 0, .int .i64 0, .int .i64 0, .int .u64 0, .int .i64 0, .int .u64 0, .bool false] 57)) = .ok (.agg #[.int .i64 S.e, .int .u64 0, .slice none 0 0, .slice none 0 0, .int .i64 S.rl.id, .int .i64 S.rl.rk, .int .u64 S.rl.kn, .int .i64 S.rl.ln, .int .u64 S.rl.bt, .int .i64 S.rr.id, .int .i64 S.rr.rk, .int .u64 S.rr.kn, .int .i64 S.rr.ln, .int .u64 S.rr.bt, .bool S.fd]) (w.alloc (.cells #[.int .i64 0, .int .i64 0, .int .i64 0, .int .u64 0, .int .i64 0, .int .u64 0, .int .i64 0, .int .i64 0, .int .u64 0, .int .i64 0, .int .i64 0, .int .u64 0, .int .i64 0, .int .u64 0, .int .i64 0, .int .i64 0, .int .u64 0, .int .i64 0, .int .u64 0, .int .i64 0, .int .i64 0, .int .i64 0, .int .u64 0, .slice none 0 0, .slice none 0 0, .int .i64 0, .int .i64 0, .int .u64 0, .int .i64 0, .int .u64 0, .int .i64 0, .int .i64 0, .int .u64 0, .int .i64 0, .int .u64 0, .bool false] 57))) := q_res XX.out.blk
  obtain ⟨w6, hs6, P6', k6⟩ := st_step P0 rfl 3 zr 0 0 0 S.e S.rl S.rr S.fd
  have HS6 := hide hs6
  have P6 := hide P6'
  have B6 : Hid (Below w.heap.size w w6) := b1.trans (k6.to_below (by have := b1.size; omega) (by simp))
  clear hs6 P6' k6 P0 b1 X0 XX hto
  go_enter Tryd.func17, Tryd.ntmps17
  go_wp2_with (first | (focus ((with_reducible refine wpList_load_w ?_ 55 (.tmp 10) ?_ ?_ LR.out ?_); rotate_left; rfl; rfl; rotate_left; rfl)) | (focus ((with_reducible refine wpList_store_w ?_ 57 (.tmp 2) (.tmp 12) ?_ ?_ ?_ HS6.out ?_); rotate_left; rfl; rfl; rfl; rotate_left; rfl)))
  try simp only [Act.put]
  try go_wp2
  refine ret_step (p := 2) (b := w.heap.size) Tryd.results17 rfl rfl P6.out ?_
  exact ⟨rfl, B6.out⟩

set_option maxHeartbeats 2000000 in
set_option maxRecDepth 100000 in
theorem dnext_here (d base : Nat) (S : Sk) (s : Rf) (L : List Wl) (hov : S.ov = false) (hl : S.lk = false) (w : World) (X : Dk w d base S s L) : Calls Tryd.prog 17 #[.pointer (some ⟨d, 0, none⟩)] w fun e' w' => e' = .returned (.agg (spL 1 S.pt 1 S.wl S.wb 0 zr zr false).toArray) ∧ Below w.heap.size w w' := by
  have mixed : Tryd.prog.follows .mixedOrders = true := by kernel_rfl
  have b1 := (Below.refl w.heap.size w).alloc (Nat.le_refl _) (.cells #[.int .i64 0, .int .i64 0, .int .i64 0, .int .u64 0, .int .i64 0, .int .u64 0, .int .i64 0, .int .i64 0, .int .u64 0, .int .i64 0, .int .i64 0, .int .u64 0, .int .i64 0, .int .u64 0, .int .i64 0, .int .i64 0, .int .u64 0, .int .i64 0, .int .u64 0, .int .i64 0, .int .i64 0, .int .i64 0, .int .u64 0, .slice none 0 0, .slice none 0 0, .int .i64 0, .int .i64 0, .int .u64 0, .int .i64 0, .int .u64 0, .int .i64 0, .int .i64 0, .int .u64 0, .int .i64 0, .int .u64 0, .bool false] 57)
  have P0 : IsB (w.alloc (.cells #[.int .i64 0, .int .i64 0, .int .i64 0, .int .u64 0, .int .i64 0, .int .u64 0, .int .i64 0, .int .i64 0, .int .u64 0, .int .i64 0, .int .i64 0, .int .u64 0, .int .i64 0, .int .u64 0, .int .i64 0, .int .i64 0, .int .u64 0, .int .i64 0, .int .u64 0, .int .i64 0, .int .i64 0, .int .i64 0, .int .u64 0, .slice none 0 0, .slice none 0 0, .int .i64 0, .int .i64 0, .int .u64 0, .int .i64 0, .int .u64 0, .int .i64 0, .int .i64 0, .int .u64 0, .int .i64 0, .int .u64 0, .bool false] 57)) w.heap.size (spL 0 zr 0 0 0 0 zr zr false).toArray 57 := IsB.new w #[.int .i64 0, .int .i64 0, .int .i64 0, .int .u64 0, .int .i64 0, .int .u64 0, .int .i64 0, .int .i64 0, .int .u64 0, .int .i64 0, .int .i64 0, .int .u64 0, .int .i64 0, .int .u64 0, .int .i64 0, .int .i64 0, .int .u64 0, .int .i64 0, .int .u64 0, .int .i64 0, .int .i64 0, .int .i64 0, .int .u64 0, .slice none 0 0, .slice none 0 0, .int .i64 0, .int .i64 0, .int .u64 0, .int .i64 0, .int .u64 0, .int .i64 0, .int .i64 0, .int .u64 0, .int .i64 0, .int .u64 0, .bool false] 57
  obtain ⟨to, v, hto, X0⟩ := X
  have XX := hide (X0.below b1)
  have y23 := c_ov XX.out.blk
  rw [hov] at y23
  have B := hide b1.drew
  have PD := hide (P0.below ((Below.refl _ _).drew))
  have XD := hide (XX.out.below ((Below.refl _ _).drew))
  have ID := hide XD.out.blk
  clear b1 P0 X0 XX
  go_enter Tryd.func17, Tryd.ntmps17
  go_wp2_with fail
  clear y23
  refine regionL 11 (fun w' => IsB w' d (dkL S s to v).toArray 62) mixed ID.out (fun hHeld => ?_)
  generalize (w.alloc (.cells #[.int .i64 0, .int .i64 0, .int .i64 0, .int .u64 0, .int .i64 0, .int .u64 0, .int .i64 0, .int .i64 0, .int .u64 0, .int .i64 0, .int .i64 0, .int .u64 0, .int .i64 0, .int .u64 0, .int .i64 0, .int .i64 0, .int .u64 0, .int .i64 0, .int .u64 0, .int .i64 0, .int .i64 0, .int .i64 0, .int .u64 0, .slice none 0 0, .slice none 0 0, .int .i64 0, .int .i64 0, .int .u64 0, .int .i64 0, .int .u64 0, .int .i64 0, .int .i64 0, .int .u64 0, .int .i64 0, .int .u64 0, .bool false] 57)).drew = WD at *
  have bA := (Below.refl WD.heap.size WD).alloc (Nat.le_refl _) (.cells #[.int .i64 0, .int .i64 0, .int .i64 0, .int .u64 0, .int .i64 0, .int .u64 0, .int .i64 0, .int .i64 0, .int .u64 0, .int .i64 0, .int .i64 0, .int .u64 0, .int .i64 0, .int .u64 0, .int .i64 0, .int .i64 0, .int .u64 0, .int .i64 0, .int .u64 0, .int .i64 0, .int .i64 0, .int .i64 0, .int .u64 0, .slice none 0 0, .slice none 0 0, .int .i64 0, .int .i64 0, .int .u64 0, .int .i64 0, .int .u64 0, .int .i64 0, .int .i64 0, .int .u64 0, .int .i64 0, .int .u64 0, .bool false] 57)
  have IA := hide (ID.out.below bA)
  have SA := hide (store_step WD (spL 1 S.pt 1 S.wl S.wb 0 zr zr false).toArray rfl (by kernel_rfl))
  clear bA
  refine pickA (v := ?_) 0 (some 13) rfl rfl (by kernel_rfl) (by kernel_rfl) (by kernel_rfl) (by decide) (fun _ _ _ h => h) (by rfl) ?_ (by assumption) ?_
  rotate_left
  · intro w'
    go_simp
    try with_reducible rfl
  try simp only [Act.put, List.setIfInBounds_toArray, List.set_cons_zero, List.set_cons_succ]
  refine pickA (v := ?_) 1 (some 14) rfl rfl (by kernel_rfl) (by kernel_rfl) (by kernel_rfl) (by decide) (fun _ _ _ h => h) (by rfl) ?_ (by assumption) ?_
  rotate_left
  · intro w'
    go_simp
    try with_reducible rfl
  try simp only [Act.put, List.setIfInBounds_toArray, List.set_cons_zero, List.set_cons_succ]
  refine pickA (v := ?_) 2 (some 15) rfl rfl (by kernel_rfl) (by kernel_rfl) (by kernel_rfl) (by decide) (fun _ _ _ h => h) (by rfl) ?_ (by assumption) ?_
  rotate_left
  · intro w'
    go_simp
    try with_reducible rfl
  try simp only [Act.put, List.setIfInBounds_toArray, List.set_cons_zero, List.set_cons_succ]
  refine pickL (v := .agg S.pt.cells) 3 (some 16) rfl rfl (by kernel_rfl) (by kernel_rfl) (by kernel_rfl) (by decide) (by kernel_rfl) (by kernel_rfl) (fun _ _ _ h => h) (by rfl) ?_ (by assumption) ?_
  · intro w' hSw
    have q0 := hSw
    exact exec_load rfl rfl (q_at q0)
  try simp only [Act.put, List.setIfInBounds_toArray, List.set_cons_zero, List.set_cons_succ]
  refine pickA (v := ?_) 4 (some 17) rfl rfl (by kernel_rfl) (by kernel_rfl) (by kernel_rfl) (by decide) (fun _ _ _ h => h) (by rfl) ?_ (by assumption) ?_
  rotate_left
  · intro w'
    go_simp
    try with_reducible rfl
  try simp only [Act.put, List.setIfInBounds_toArray, List.set_cons_zero, List.set_cons_succ]
  refine pickA (v := ?_) 5 (some 18) rfl rfl (by kernel_rfl) (by kernel_rfl) (by kernel_rfl) (by decide) (fun _ _ _ h => h) (by rfl) ?_ (by assumption) ?_
  rotate_left
  · intro w'
    go_simp
    try with_reducible rfl
  try simp only [Act.put, List.setIfInBounds_toArray, List.set_cons_zero, List.set_cons_succ]
  refine pickA (v := ?_) 6 (some 19) rfl rfl (by kernel_rfl) (by kernel_rfl) (by kernel_rfl) (by decide) (fun _ _ _ h => h) (by rfl) ?_ (by assumption) ?_
  rotate_left
  · intro w'
    go_simp
    try with_reducible rfl
  try simp only [Act.put, List.setIfInBounds_toArray, List.set_cons_zero, List.set_cons_succ]
  refine pickL (v := (.agg #[.int .i64 (S.wl), .int .u64 (S.wb)])) 7 (some 20) rfl rfl (by kernel_rfl) (by kernel_rfl) (by kernel_rfl) (by decide) (by kernel_rfl) (by kernel_rfl) (fun _ _ _ h => h) (by rfl) ?_ (by assumption) ?_
  · intro w' hSw
    have q0 := hSw
    exact exec_load rfl rfl (q_w q0)
  try simp only [Act.put, List.setIfInBounds_toArray, List.set_cons_zero, List.set_cons_succ]
  refine pickA (v := ?_) 8 (some 21) rfl rfl (by kernel_rfl) (by kernel_rfl) (by kernel_rfl) (by decide) (fun _ _ _ h => h) (by rfl) ?_ (by assumption) ?_
  rotate_left
  · intro w'
    go_simp
    try with_reducible rfl
  try simp only [Act.put, List.setIfInBounds_toArray, List.set_cons_zero, List.set_cons_succ]
  refine pickA (v := .agg (spL 1 S.pt 1 S.wl S.wb 0 zr zr false).toArray) 9 (some 22) rfl rfl (by kernel_rfl) (by kernel_rfl) (by kernel_rfl) (by decide) (fun _ _ _ h => h) (by rfl) ?_ (by assumption) ?_
  · intro w'
    kernel_rfl
  try simp only [Act.put, List.setIfInBounds_toArray, List.set_cons_zero, List.set_cons_succ]
  refine oneL (i := 10) (by kernel_rfl) rfl (fun K hK => ?_)
  go_simp
  refine hK.out _ _ ?_ ?_
  · exact IA.out
  clear hK K
  try simp only [Act.put, List.setIfInBounds_toArray, List.set_cons_zero, List.set_cons_succ]
  clear hHeld
  have hHeld : (fun w' => IsB w' d (dkL S s to v).toArray 62) (WD.alloc (.cells #[.int .i64 0, .int .i64 0, .int .i64 0, .int .u64 0, .int .i64 0, .int .u64 0, .int .i64 0, .int .i64 0, .int .u64 0, .int .i64 0, .int .i64 0, .int .u64 0, .int .i64 0, .int .u64 0, .int .i64 0, .int .i64 0, .int .u64 0, .int .i64 0, .int .u64 0, .int .i64 0, .int .i64 0, .int .i64 0, .int .u64 0, .slice none 0 0, .slice none 0 0, .int .i64 0, .int .i64 0, .int .u64 0, .int .i64 0, .int .u64 0, .int .i64 0, .int .i64 0, .int .u64 0, .int .i64 0, .int .u64 0, .bool false] 57)) := IA.out
  refine lateL (i := 11) (by kernel_rfl) rfl (by decide) (by kernel_rfl) (fun K hK => ?_)
  refine step_store_w rfl 57 (.tmp 3) (.tmp 22) rfl rfl rfl SA.out ?_
  refine hK.out _ _ ?_
  clear hK K
  try simp only [Act.put, List.setIfInBounds_toArray]
  refine doneL (by kernel_rfl) ?_ _
  clear hHeld
  clear IA SA ID
  have b4 := (Below.refl WD.heap.size WD).alloc (Nat.le_refl _) (.cells (spL 1 S.pt 1 S.wl S.wb 0 zr zr false).toArray 57)
  have A := hide (IsB.new WD (spL 1 S.pt 1 S.wl S.wb 0 zr zr false).toArray 57)
  have X4 := hide (XD.out.below b4)
  have hlt := PD.out.lt
  replace PD := hide (PD.out.below b4)
  replace B := hide (B.out.trans (b4.mono B.out.size))
  clear b4 XD
  generalize hW4 : (WD.alloc (.cells (spL 1 S.pt 1 S.wl S.wb 0 zr zr false).toArray 57)) = W4 at *
  clear hW4
  obtain ⟨AB, hAB⟩ : ∃ AB, WD.heap.size = AB := ⟨_, rfl⟩
  rw [hAB] at A hlt ⊢
  clear hAB
  replace hlt := hide hlt
  have y15 := c_lk X4.out.blk
  rw [hl] at y15
  have LS := hide (ld_step A.out)
  obtain ⟨w6, hs6, P6', k6⟩ := st_step PD.out rfl 1 S.pt 1 S.wl S.wb 0 zr zr false
  have HS6 := hide hs6
  have P6 := hide P6'
  have B6 : Hid (Below w.heap.size w w6) := B.out.trans (k6.to_below B.out.size (by simp))
  clear hs6 P6' k6 B PD hto
  go_wp2_with (first | (focus ((with_reducible refine wpList_load_w ?_ 57 (.tmp 3) ?_ ?_ LS.out ?_); rotate_left; rfl; rfl; rotate_left; rfl)) | (focus ((with_reducible refine wpList_store_w ?_ 57 (.tmp 2) (.tmp 32) ?_ ?_ ?_ HS6.out ?_); rotate_left; rfl; rfl; rfl; rotate_left; rfl)))
  try simp only [Act.put]
  try go_wp2
  refine ret_step (p := 2) (b := w.heap.size) Tryd.results17 rfl rfl P6.out ?_
  exact ⟨rfl, B6.out⟩

set_option maxHeartbeats 2000000 in
set_option maxRecDepth 100000 in
theorem dnext_ahead (d base : Nat) (S : Sk) (s : Rf) (L : List Wl) (hov : S.ov = false) (hl : S.lk = true) (w : World) (X : Dk w d base S s L) : Calls Tryd.prog 17 #[.pointer (some ⟨d, 0, none⟩)] w fun e' w' => e' = .returned (.agg (spL 1 S.ah 1 S.wl S.wb 0 zr zr false).toArray) ∧ Below w.heap.size w w' := by
  have mixed : Tryd.prog.follows .mixedOrders = true := by kernel_rfl
  have b1 := (Below.refl w.heap.size w).alloc (Nat.le_refl _) (.cells #[.int .i64 0, .int .i64 0, .int .i64 0, .int .u64 0, .int .i64 0, .int .u64 0, .int .i64 0, .int .i64 0, .int .u64 0, .int .i64 0, .int .i64 0, .int .u64 0, .int .i64 0, .int .u64 0, .int .i64 0, .int .i64 0, .int .u64 0, .int .i64 0, .int .u64 0, .int .i64 0, .int .i64 0, .int .i64 0, .int .u64 0, .slice none 0 0, .slice none 0 0, .int .i64 0, .int .i64 0, .int .u64 0, .int .i64 0, .int .u64 0, .int .i64 0, .int .i64 0, .int .u64 0, .int .i64 0, .int .u64 0, .bool false] 57)
  have P0 : IsB (w.alloc (.cells #[.int .i64 0, .int .i64 0, .int .i64 0, .int .u64 0, .int .i64 0, .int .u64 0, .int .i64 0, .int .i64 0, .int .u64 0, .int .i64 0, .int .i64 0, .int .u64 0, .int .i64 0, .int .u64 0, .int .i64 0, .int .i64 0, .int .u64 0, .int .i64 0, .int .u64 0, .int .i64 0, .int .i64 0, .int .i64 0, .int .u64 0, .slice none 0 0, .slice none 0 0, .int .i64 0, .int .i64 0, .int .u64 0, .int .i64 0, .int .u64 0, .int .i64 0, .int .i64 0, .int .u64 0, .int .i64 0, .int .u64 0, .bool false] 57)) w.heap.size (spL 0 zr 0 0 0 0 zr zr false).toArray 57 := IsB.new w #[.int .i64 0, .int .i64 0, .int .i64 0, .int .u64 0, .int .i64 0, .int .u64 0, .int .i64 0, .int .i64 0, .int .u64 0, .int .i64 0, .int .i64 0, .int .u64 0, .int .i64 0, .int .u64 0, .int .i64 0, .int .i64 0, .int .u64 0, .int .i64 0, .int .u64 0, .int .i64 0, .int .i64 0, .int .i64 0, .int .u64 0, .slice none 0 0, .slice none 0 0, .int .i64 0, .int .i64 0, .int .u64 0, .int .i64 0, .int .u64 0, .int .i64 0, .int .i64 0, .int .u64 0, .int .i64 0, .int .u64 0, .bool false] 57
  obtain ⟨to, v, hto, X0⟩ := X
  have XX := hide (X0.below b1)
  have y23 := c_ov XX.out.blk
  rw [hov] at y23
  have B := hide b1.drew
  have PD := hide (P0.below ((Below.refl _ _).drew))
  have XD := hide (XX.out.below ((Below.refl _ _).drew))
  have ID := hide XD.out.blk
  clear b1 P0 X0 XX
  go_enter Tryd.func17, Tryd.ntmps17
  go_wp2_with fail
  clear y23
  refine regionL 11 (fun w' => IsB w' d (dkL S s to v).toArray 62) mixed ID.out (fun hHeld => ?_)
  generalize (w.alloc (.cells #[.int .i64 0, .int .i64 0, .int .i64 0, .int .u64 0, .int .i64 0, .int .u64 0, .int .i64 0, .int .i64 0, .int .u64 0, .int .i64 0, .int .i64 0, .int .u64 0, .int .i64 0, .int .u64 0, .int .i64 0, .int .i64 0, .int .u64 0, .int .i64 0, .int .u64 0, .int .i64 0, .int .i64 0, .int .i64 0, .int .u64 0, .slice none 0 0, .slice none 0 0, .int .i64 0, .int .i64 0, .int .u64 0, .int .i64 0, .int .u64 0, .int .i64 0, .int .i64 0, .int .u64 0, .int .i64 0, .int .u64 0, .bool false] 57)).drew = WD at *
  have bA := (Below.refl WD.heap.size WD).alloc (Nat.le_refl _) (.cells #[.int .i64 0, .int .i64 0, .int .i64 0, .int .u64 0, .int .i64 0, .int .u64 0, .int .i64 0, .int .i64 0, .int .u64 0, .int .i64 0, .int .i64 0, .int .u64 0, .int .i64 0, .int .u64 0, .int .i64 0, .int .i64 0, .int .u64 0, .int .i64 0, .int .u64 0, .int .i64 0, .int .i64 0, .int .i64 0, .int .u64 0, .slice none 0 0, .slice none 0 0, .int .i64 0, .int .i64 0, .int .u64 0, .int .i64 0, .int .u64 0, .int .i64 0, .int .i64 0, .int .u64 0, .int .i64 0, .int .u64 0, .bool false] 57)
  have IA := hide (ID.out.below bA)
  have SA := hide (store_step WD (spL 1 S.pt 1 S.wl S.wb 0 zr zr false).toArray rfl (by kernel_rfl))
  clear bA
  refine pickA (v := ?_) 0 (some 13) rfl rfl (by kernel_rfl) (by kernel_rfl) (by kernel_rfl) (by decide) (fun _ _ _ h => h) (by rfl) ?_ (by assumption) ?_
  rotate_left
  · intro w'
    go_simp
    try with_reducible rfl
  try simp only [Act.put, List.setIfInBounds_toArray, List.set_cons_zero, List.set_cons_succ]
  refine pickA (v := ?_) 1 (some 14) rfl rfl (by kernel_rfl) (by kernel_rfl) (by kernel_rfl) (by decide) (fun _ _ _ h => h) (by rfl) ?_ (by assumption) ?_
  rotate_left
  · intro w'
    go_simp
    try with_reducible rfl
  try simp only [Act.put, List.setIfInBounds_toArray, List.set_cons_zero, List.set_cons_succ]
  refine pickA (v := ?_) 2 (some 15) rfl rfl (by kernel_rfl) (by kernel_rfl) (by kernel_rfl) (by decide) (fun _ _ _ h => h) (by rfl) ?_ (by assumption) ?_
  rotate_left
  · intro w'
    go_simp
    try with_reducible rfl
  try simp only [Act.put, List.setIfInBounds_toArray, List.set_cons_zero, List.set_cons_succ]
  refine pickL (v := .agg S.pt.cells) 3 (some 16) rfl rfl (by kernel_rfl) (by kernel_rfl) (by kernel_rfl) (by decide) (by kernel_rfl) (by kernel_rfl) (fun _ _ _ h => h) (by rfl) ?_ (by assumption) ?_
  · intro w' hSw
    have q0 := hSw
    exact exec_load rfl rfl (q_at q0)
  try simp only [Act.put, List.setIfInBounds_toArray, List.set_cons_zero, List.set_cons_succ]
  refine pickA (v := ?_) 4 (some 17) rfl rfl (by kernel_rfl) (by kernel_rfl) (by kernel_rfl) (by decide) (fun _ _ _ h => h) (by rfl) ?_ (by assumption) ?_
  rotate_left
  · intro w'
    go_simp
    try with_reducible rfl
  try simp only [Act.put, List.setIfInBounds_toArray, List.set_cons_zero, List.set_cons_succ]
  refine pickA (v := ?_) 5 (some 18) rfl rfl (by kernel_rfl) (by kernel_rfl) (by kernel_rfl) (by decide) (fun _ _ _ h => h) (by rfl) ?_ (by assumption) ?_
  rotate_left
  · intro w'
    go_simp
    try with_reducible rfl
  try simp only [Act.put, List.setIfInBounds_toArray, List.set_cons_zero, List.set_cons_succ]
  refine pickA (v := ?_) 6 (some 19) rfl rfl (by kernel_rfl) (by kernel_rfl) (by kernel_rfl) (by decide) (fun _ _ _ h => h) (by rfl) ?_ (by assumption) ?_
  rotate_left
  · intro w'
    go_simp
    try with_reducible rfl
  try simp only [Act.put, List.setIfInBounds_toArray, List.set_cons_zero, List.set_cons_succ]
  refine pickL (v := (.agg #[.int .i64 (S.wl), .int .u64 (S.wb)])) 7 (some 20) rfl rfl (by kernel_rfl) (by kernel_rfl) (by kernel_rfl) (by decide) (by kernel_rfl) (by kernel_rfl) (fun _ _ _ h => h) (by rfl) ?_ (by assumption) ?_
  · intro w' hSw
    have q0 := hSw
    exact exec_load rfl rfl (q_w q0)
  try simp only [Act.put, List.setIfInBounds_toArray, List.set_cons_zero, List.set_cons_succ]
  refine pickA (v := ?_) 8 (some 21) rfl rfl (by kernel_rfl) (by kernel_rfl) (by kernel_rfl) (by decide) (fun _ _ _ h => h) (by rfl) ?_ (by assumption) ?_
  rotate_left
  · intro w'
    go_simp
    try with_reducible rfl
  try simp only [Act.put, List.setIfInBounds_toArray, List.set_cons_zero, List.set_cons_succ]
  refine pickA (v := .agg (spL 1 S.pt 1 S.wl S.wb 0 zr zr false).toArray) 9 (some 22) rfl rfl (by kernel_rfl) (by kernel_rfl) (by kernel_rfl) (by decide) (fun _ _ _ h => h) (by rfl) ?_ (by assumption) ?_
  · intro w'
    kernel_rfl
  try simp only [Act.put, List.setIfInBounds_toArray, List.set_cons_zero, List.set_cons_succ]
  refine oneL (i := 10) (by kernel_rfl) rfl (fun K hK => ?_)
  go_simp
  refine hK.out _ _ ?_ ?_
  · exact IA.out
  clear hK K
  try simp only [Act.put, List.setIfInBounds_toArray, List.set_cons_zero, List.set_cons_succ]
  clear hHeld
  have hHeld : (fun w' => IsB w' d (dkL S s to v).toArray 62) (WD.alloc (.cells #[.int .i64 0, .int .i64 0, .int .i64 0, .int .u64 0, .int .i64 0, .int .u64 0, .int .i64 0, .int .i64 0, .int .u64 0, .int .i64 0, .int .i64 0, .int .u64 0, .int .i64 0, .int .u64 0, .int .i64 0, .int .i64 0, .int .u64 0, .int .i64 0, .int .u64 0, .int .i64 0, .int .i64 0, .int .i64 0, .int .u64 0, .slice none 0 0, .slice none 0 0, .int .i64 0, .int .i64 0, .int .u64 0, .int .i64 0, .int .u64 0, .int .i64 0, .int .i64 0, .int .u64 0, .int .i64 0, .int .u64 0, .bool false] 57)) := IA.out
  refine lateL (i := 11) (by kernel_rfl) rfl (by decide) (by kernel_rfl) (fun K hK => ?_)
  refine step_store_w rfl 57 (.tmp 3) (.tmp 22) rfl rfl rfl SA.out ?_
  refine hK.out _ _ ?_
  clear hK K
  try simp only [Act.put, List.setIfInBounds_toArray]
  refine doneL (by kernel_rfl) ?_ _
  clear hHeld
  clear IA SA ID
  have b4 := (Below.refl WD.heap.size WD).alloc (Nat.le_refl _) (.cells (spL 1 S.pt 1 S.wl S.wb 0 zr zr false).toArray 57)
  have A := hide (IsB.new WD (spL 1 S.pt 1 S.wl S.wb 0 zr zr false).toArray 57)
  have X4 := hide (XD.out.below b4)
  have hlt := PD.out.lt
  replace PD := hide (PD.out.below b4)
  replace B := hide (B.out.trans (b4.mono B.out.size))
  clear b4 XD
  generalize hW4 : (WD.alloc (.cells (spL 1 S.pt 1 S.wl S.wb 0 zr zr false).toArray 57)) = W4 at *
  clear hW4
  obtain ⟨AB, hAB⟩ : ∃ AB, WD.heap.size = AB := ⟨_, rfl⟩
  rw [hAB] at A hlt ⊢
  clear hAB
  replace hlt := hide hlt
  have y15 := c_lk X4.out.blk
  rw [hl] at y15
  obtain rfl := hto hl
  have LT := hide (q_to X4.out.blk)
  obtain ⟨w5, hs5, A5, k5⟩ := st_sto A.out S.ah
  have HS5 := hide hs5
  replace PD := hide (PD.out.kp k5 (by have := hlt.out; simp; omega))
  replace B := hide (B.out.trans (k5.to_below B.out.size (by have := hlt.out; simp; omega)))
  replace A := hide A5
  clear hs5 A5 k5
  have LS := hide (ld_step A.out)
  obtain ⟨w6, hs6, P6', k6⟩ := st_step PD.out rfl 1 S.ah 1 S.wl S.wb 0 zr zr false
  have HS6 := hide hs6
  have P6 := hide P6'
  have B6 : Hid (Below w.heap.size w w6) := B.out.trans (k6.to_below B.out.size (by simp))
  clear hs6 P6' k6 B PD hto
  go_wp2_with (first | (focus ((with_reducible refine wpList_load_w ?_ 29 (.tmp 29) ?_ ?_ LT.out ?_); rotate_left; rfl; rfl; rotate_left; rfl)) | (focus ((with_reducible refine wpList_store_w ?_ 29 (.tmp 31) (.tmp 30) ?_ ?_ ?_ HS5.out ?_); rotate_left; rfl; rfl; rfl; rotate_left; rfl)) | (focus ((with_reducible refine wpList_load_w ?_ 57 (.tmp 3) ?_ ?_ LS.out ?_); rotate_left; rfl; rfl; rotate_left; rfl)) | (focus ((with_reducible refine wpList_store_w ?_ 57 (.tmp 2) (.tmp 32) ?_ ?_ ?_ HS6.out ?_); rotate_left; rfl; rfl; rfl; rotate_left; rfl)))
  try simp only [Act.put]
  try go_wp2
  refine ret_step (p := 2) (b := w.heap.size) Tryd.results17 rfl rfl P6.out ?_
  exact ⟨rfl, B6.out⟩

theorem dnext_any (d base : Nat) (S : Sk) (s : Rf) (L : List Wl) (w : World) (X : Dk w d base S s L) : Calls Tryd.prog 17 #[.pointer (some ⟨d, 0, none⟩)] w fun e' w' => e' = .returned (.agg S.step.toArray) ∧ Below w.heap.size w w' := by
  unfold Sk.step
  cases hov : S.ov with
  | true => rw [if_pos rfl]; exact dnext_over d base S s L hov w X
  | false =>
    rw [if_neg (by decide)]
    unfold Sk.to
    cases hl : S.lk with
    | true => rw [if_pos rfl]; exact dnext_ahead d base S s L hov hl w X
    | false => rw [if_neg (by decide)]; exact dnext_here d base S s L hov hl w X

end Go.Proofs.YtdkadggcaobaaaaDoor
