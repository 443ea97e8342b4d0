/- A removal that searches: goOn, Next, Tell, Wake. -/
import Derived.Test.YtokehogcenjefaaGreatDoorAB
namespace Go.Proofs.YtokehogcenjefaaGreatDoor
open Go.RowKit Go.Maps Go.ChangeMaps

/-- May an owner be? -/
def okO (a o : Int) : Bool := decide (0 ≤ a ∧ a < 1024 ∧ 1 ≤ o ∧ o ≤ 1073741824)
def chE (a o : Int) : Int := if okO a o then 0 else 70
theorem chE_yes {a o : Int} (h : okO a o = true) : chE a o = 0 := by simp [chE, h]
theorem chE_no {a o : Int} (h : okO a o = false) : chE a o = 70 := by simp [chE, h]

set_option maxHeartbeats 800000 in
theorem check_any (a o : Int) (w : World) : Calls Tryz.prog 26 #[.agg #[.int .i64 a, .int .i64 o]] w fun e w' => e = .returned (.int .i64 (chE a o)) ∧ Below w.heap.size w w' := by
 have fin : Below w.heap.size w (w.alloc (.cells #[.int .i64 a, .int .i64 o] 31)) := (Below.refl _ _).alloc (Nat.le_refl _) _
 by_cases h0 : a < 0
 · rw [chE_no (by unfold okO; simp; omega)]
   go_enter Tryz.func26, Tryz.ntmps26
   go_wp2
   go_ret
   exact ⟨rfl, fin⟩
 · by_cases h1 : 1024 ≤ a
   · rw [chE_no (by unfold okO; simp; omega)]
     go_enter Tryz.func26, Tryz.ntmps26
     go_wp2
     go_ret
     exact ⟨rfl, fin⟩
   · by_cases h2 : o < 1
     · rw [chE_no (by unfold okO; simp; omega)]
       go_enter Tryz.func26, Tryz.ntmps26
       go_wp2
       go_ret
       exact ⟨rfl, fin⟩
     · by_cases h3 : 1073741824 < o
       · rw [chE_no (by unfold okO; simp; omega)]
         go_enter Tryz.func26, Tryz.ntmps26
         go_wp2
         go_ret
         exact ⟨rfl, fin⟩
       · rw [chE_yes (by unfold okO; simp; omega)]
         go_enter Tryz.func26, Tryz.ntmps26
         go_wp2
         go_ret
         exact ⟨rfl, fin⟩

/-- How a removal stands behind its search's turn: the machine at hand, and itself. -/
def Rm.went (R : Rm) (S : Sk) : Rm := if S.ov = true then R.sought S.e S.rr S.fd else R
def handOf (S : Sk) (s : Nat) : Value := if S.ov = true then .nilIface else (.iface 133 (.pointer (some ⟨s, 0, none⟩)))
theorem fldS (k : Int) (r : Rf) (q x y e : Int) (l r2 : Rf) (f : Bool) {w : World} {b : Nat} (I : IsB w b (spL k r q x y e l r2 f).toArray 53) : (Instr.loadAt 51 (.pointer (some ⟨b, 21, none⟩))).run Tryz.prog w = .ok (.agg (rsL e l r2 f).toArray) w := load_mid I 21 _ (rsL e l r2 f) _ rfl Tryz.underlying51 rfl (by kernel_rfl)
theorem neif (s : Nat) (w : World) : (binOp .neq 84 (.iface 133 (.pointer (some ⟨s, 0, none⟩))) .nilIface).run Tryz.prog w = .ok (.bool true) w := by kernel_rfl
theorem one_spL (k : Int) (r : Rf) (q x y e : Int) (l r2 : Rf) (f : Bool) : (spL k r q x y e l r2 f).toArray.all (·.oneCell') = true := by simp [spL, Value.oneCell']

theorem gb1 (w : World) (o : Obj) : Below w.heap.size w (w.alloc o) := (Below.refl _ _).alloc (Nat.le_refl _) o

set_option maxHeartbeats 2000000 in
set_option maxRecDepth 100000 in
theorem goOn_over (b s m : Nat) (R : Rm) (S : Sk) (ws : List (Pl × Rf)) (hbs : b ≠ s ∧ b ≠ m) (hp : R.pl = 1) (hov : S.ov = true) (w : World) (I : IsB w b (rmL R (.iface 133 (.pointer (some ⟨s, 0, none⟩)))).toArray 90) (X : SkAt w s m S ws) : Calls Tryz.prog 32 #[.pointer (some ⟨b, 0, none⟩)] w fun e' w' => e' = .returned (.tuple #[]) ∧ IsB w' b (rmL (R.sought S.e S.rr S.fd) .nilIface).toArray 90 ∧ SkAt w' s m S ws ∧ Kp [b] w w' := by
 have c3 := rc_h I
 go_enter Tryz.func32, Tryz.ntmps32
 go_wp2_with fail
 have NX := next_any s m S ws w X
 rw [show S.step = spL 3 zr 0 0 0 S.e S.rl S.rr S.fd by unfold Sk.step; rw [hov]; rfl] at NX
 refine NX.mono ?_
 rintro e1 w1 ⟨rfl, hb⟩
 clear NX c3
 have SS := hide (store_step w1 (spL 3 zr 0 0 0 S.e S.rl S.rr S.fd).toArray rfl (one_spL _ _ _ _ _ _ _ _ _))
 have hA := gb1 w1 (.cells (spL 3 zr 0 0 0 S.e S.rl S.rr S.fd).toArray 53)
 have Q1 := IsB.new w1 (spL 3 zr 0 0 0 S.e S.rl S.rr S.fd).toArray 53
 have I1 := (I.below hb).below hA
 have X1 := (X.below hb).below hA
 have K1 : Kp [b] w (w1.alloc (.cells (spL 3 zr 0 0 0 S.e S.rl S.rr S.fd).toArray 53)) := Kp.of_below (hb.trans (hA.mono hb.size))
 have c0 : (w1.alloc (.cells (spL 3 zr 0 0 0 S.e S.rl S.rr S.fd).toArray 53)).cell? ⟨w1.heap.size, 0, none⟩ = some (.int .i64 3) := Q1.cell 0
 have c2 := rc_pl I1
 rw [hp] at c2
 have LR := hide (fldS _ _ _ _ _ _ _ _ _ Q1)
 go_wp2_with (first | (focus ((with_reducible refine wpList_store_w ?_ 53 (.tmp 2) (.tmp 7) ?_ ?_ ?_ SS.out ?_); rotate_left; rfl; rfl; rfl; rotate_left; rfl)) | (focus ((with_reducible refine wpList_load_w ?_ 51 (.tmp 24) ?_ ?_ LR.out ?_); rotate_left; rfl; rfl; rotate_left; rfl)))
 refine (sought_any b R (.iface 133 (.pointer (some ⟨s, 0, none⟩))) S.e S.rl S.rr S.fd _ I1).mono ?_
 rintro e2 w2 ⟨rfl, I2, k2⟩
 have X2 := X1.kp k2 (by simp; exact fun e => hbs.1 e.symm) (by simp; exact fun e => hbs.2 e.symm)
 go_wp2
 refine bodyPost_end (results_none rfl _ _ _) rfl ?_
 exact ⟨rfl, I2, X2, K1.tr k2⟩

set_option maxHeartbeats 2000000 in
set_option maxRecDepth 100000 in
theorem goOn_not (b s m : Nat) (R : Rm) (S : Sk) (ws : List (Pl × Rf)) (_ : b ≠ s ∧ b ≠ m) (hov : S.ov = false) (w : World) (I : IsB w b (rmL R (.iface 133 (.pointer (some ⟨s, 0, none⟩)))).toArray 90) (X : SkAt w s m S ws) : Calls Tryz.prog 32 #[.pointer (some ⟨b, 0, none⟩)] w fun e' w' => e' = .returned (.tuple #[]) ∧ IsB w' b (rmL R (.iface 133 (.pointer (some ⟨s, 0, none⟩)))).toArray 90 ∧ SkAt w' s m S ws ∧ Kp [b] w w' := by
 have c3 := rc_h I
 go_enter Tryz.func32, Tryz.ntmps32
 go_wp2_with fail
 have NX := next_any s m S ws w X
 rw [show S.step = spL 1 S.to 1 S.wl S.wb 0 zr zr false by unfold Sk.step; rw [hov]; rfl] at NX
 refine NX.mono ?_
 rintro e1 w1 ⟨rfl, hb⟩
 clear NX c3
 have SS := hide (store_step w1 (spL 1 S.to 1 S.wl S.wb 0 zr zr false).toArray rfl (one_spL _ _ _ _ _ _ _ _ _))
 have hA := gb1 w1 (.cells (spL 1 S.to 1 S.wl S.wb 0 zr zr false).toArray 53)
 have Q1 := IsB.new w1 (spL 1 S.to 1 S.wl S.wb 0 zr zr false).toArray 53
 have I1 := (I.below hb).below hA
 have X1 := (X.below hb).below hA
 have K1 : Kp [b] w (w1.alloc (.cells (spL 1 S.to 1 S.wl S.wb 0 zr zr false).toArray 53)) := Kp.of_below (hb.trans (hA.mono hb.size))
 have c0 : (w1.alloc (.cells (spL 1 S.to 1 S.wl S.wb 0 zr zr false).toArray 53)).cell? ⟨w1.heap.size, 0, none⟩ = some (.int .i64 1) := Q1.cell 0
 go_wp2_with (first | (focus ((with_reducible refine wpList_store_w ?_ 53 (.tmp 2) (.tmp 7) ?_ ?_ ?_ SS.out ?_); rotate_left; rfl; rfl; rfl; rotate_left; rfl)))
 refine bodyPost_end (results_none rfl _ _ _) rfl ?_
 exact ⟨rfl, I1, X1, K1⟩

set_option maxHeartbeats 2000000 in
set_option maxRecDepth 100000 in
theorem goOn_any (b s m : Nat) (R : Rm) (S : Sk) (ws : List (Pl × Rf)) (hbs : b ≠ s ∧ b ≠ m) (hp : R.pl = 1) (w : World) (I : IsB w b (rmL R (.iface 133 (.pointer (some ⟨s, 0, none⟩)))).toArray 90) (X : SkAt w s m S ws) : Calls Tryz.prog 32 #[.pointer (some ⟨b, 0, none⟩)] w fun e' w' => e' = .returned (.tuple #[]) ∧ IsB w' b (rmL (R.went S) (handOf S s)).toArray 90 ∧ SkAt w' s m S ws ∧ Kp [b] w w' := by
 unfold Rm.went handOf
 cases hov : S.ov
 · rw [if_neg (by decide), if_neg (by decide)]
   exact goOn_not b s m R S ws hbs hov w I X
 · rw [if_pos rfl, if_pos rfl]
   exact goOn_over b s m R S ws hbs hp hov w I X

set_option maxHeartbeats 2000000 in
set_option maxRecDepth 100000 in
theorem rnext_mark (b : Nat) (R : Rm) (h : Value) (hp : R.pl = 2) (w : World) (I : IsB w b (rmL R h).toArray 90) : Calls Tryz.prog 9 #[.pointer (some ⟨b, 0, none⟩)] w fun e' w' => e' = .returned (.agg (spL 1 R.x 9 0 0 0 zr zr false).toArray) ∧ Below w.heap.size w w' := by
 have b1 := gb1 w (.cells #[.int .i64 0, .int .i64 0, .int .i64 0, .int .u64 0, .int .i64 0, .int .u64 0, .int .i64 0, .int .i64 0, .int .u64 0, .int .i64 0, .int .i64 0, .int .u64 0, .int .i64 0, .int .u64 0, .int .i64 0, .int .i64 0, .int .u64 0, .int .i64 0, .int .u64 0, .int .i64 0, .int .i64 0, .int .i64 0, .int .u64 0, .slice none 0 0, .slice none 0 0, .int .i64 0, .int .i64 0, .int .u64 0, .int .i64 0, .int .u64 0, .int .i64 0, .int .i64 0, .int .u64 0, .int .i64 0, .int .u64 0, .bool false] 53)
 have I1 := I.below b1
 have c2 := rc_pl I1
 rw [hp] at c2
 have LX := hide (rl_x I1)
 have SS := hide (store_step w (spL 1 R.x 9 0 0 0 zr zr false).toArray rfl (one_spL _ _ _ _ _ _ _ _ _))
 have bz := gb1 w (.cells (spL 1 R.x 9 0 0 0 zr zr false).toArray 53)
 have Q1 := hide (IsB.new w (spL 1 R.x 9 0 0 0 zr zr false).toArray 53)
 go_enter Tryz.func9, Tryz.ntmps9
 go_wp2_with (first | (focus ((with_reducible refine wpList_store_w ?_ 53 (.tmp 2) (.tmp 25) ?_ ?_ ?_ SS.out ?_); rotate_left; rfl; rfl; rfl; rotate_left; rfl)) | (focus ((with_reducible refine wpList_load_w ?_ 29 (.tmp 22) ?_ ?_ LX.out ?_); rotate_left; rfl; rfl; rotate_left; rfl)))
 refine ret_step (p := 2) Tryz.results9 rfl rfl Q1.out ?_
 exact ⟨rfl, bz⟩

set_option maxHeartbeats 2000000 in
set_option maxRecDepth 100000 in
theorem rnext_end (b : Nat) (R : Rm) (h : Value) (hp : R.pl = 4) (w : World) (I : IsB w b (rmL R h).toArray 90) : Calls Tryz.prog 9 #[.pointer (some ⟨b, 0, none⟩)] w fun e' w' => e' = .returned (.agg (spL 3 zr 0 0 0 R.e zr zr false).toArray) ∧ Below w.heap.size w w' := by
 have b1 := gb1 w (.cells #[.int .i64 0, .int .i64 0, .int .i64 0, .int .u64 0, .int .i64 0, .int .u64 0, .int .i64 0, .int .i64 0, .int .u64 0, .int .i64 0, .int .i64 0, .int .u64 0, .int .i64 0, .int .u64 0, .int .i64 0, .int .i64 0, .int .u64 0, .int .i64 0, .int .u64 0, .int .i64 0, .int .i64 0, .int .i64 0, .int .u64 0, .slice none 0 0, .slice none 0 0, .int .i64 0, .int .i64 0, .int .u64 0, .int .i64 0, .int .u64 0, .int .i64 0, .int .i64 0, .int .u64 0, .int .i64 0, .int .u64 0, .bool false] 53)
 have I1 := I.below b1
 have c2 := rc_pl I1
 rw [hp] at c2
 have c12 := rc_e I1
 have SS := hide (store_step w (spL 3 zr 0 0 0 R.e zr zr false).toArray rfl (one_spL _ _ _ _ _ _ _ _ _))
 have bz := gb1 w (.cells (spL 3 zr 0 0 0 R.e zr zr false).toArray 53)
 have Q1 := hide (IsB.new w (spL 3 zr 0 0 0 R.e zr zr false).toArray 53)
 go_enter Tryz.func9, Tryz.ntmps9
 go_wp2_with (first | (focus ((with_reducible refine wpList_store_w ?_ 53 (.tmp 2) (.tmp 33) ?_ ?_ ?_ SS.out ?_); rotate_left; rfl; rfl; rfl; rotate_left; rfl)))
 refine ret_step (p := 2) Tryz.results9 rfl rfl Q1.out ?_
 exact ⟨rfl, bz⟩

set_option maxHeartbeats 2000000 in
set_option maxRecDepth 100000 in
theorem rnext_none (b : Nat) (R : Rm) (h : Value) (hp : R.pl = 0) (w : World) (I : IsB w b (rmL R h).toArray 90) : Calls Tryz.prog 9 #[.pointer (some ⟨b, 0, none⟩)] w fun e' w' => e' = .returned (.agg (spL 0 zr 0 0 0 0 zr zr false).toArray) ∧ Below w.heap.size w w' := by
 have b1 := gb1 w (.cells #[.int .i64 0, .int .i64 0, .int .i64 0, .int .u64 0, .int .i64 0, .int .u64 0, .int .i64 0, .int .i64 0, .int .u64 0, .int .i64 0, .int .i64 0, .int .u64 0, .int .i64 0, .int .u64 0, .int .i64 0, .int .i64 0, .int .u64 0, .int .i64 0, .int .u64 0, .int .i64 0, .int .i64 0, .int .i64 0, .int .u64 0, .slice none 0 0, .slice none 0 0, .int .i64 0, .int .i64 0, .int .u64 0, .int .i64 0, .int .u64 0, .int .i64 0, .int .i64 0, .int .u64 0, .int .i64 0, .int .u64 0, .bool false] 53)
 have I1 := I.below b1
 have c2 := rc_pl I1
 rw [hp] at c2
 have SS := hide (store_step w (spL 0 zr 0 0 0 0 zr zr false).toArray rfl (one_spL _ _ _ _ _ _ _ _ _))
 have bz := gb1 w (.cells (spL 0 zr 0 0 0 0 zr zr false).toArray 53)
 have Q1 := hide (IsB.new w (spL 0 zr 0 0 0 0 zr zr false).toArray 53)
 go_enter Tryz.func9, Tryz.ntmps9
 go_wp2_with (first | (focus ((with_reducible refine wpList_store_w ?_ 53 (.tmp 2) (.tmp 34) ?_ ?_ ?_ SS.out ?_); rotate_left; rfl; rfl; rfl; rotate_left; rfl)))
 refine ret_step (p := 2) Tryz.results9 rfl rfl Q1.out ?_
 exact ⟨rfl, bz⟩

set_option maxHeartbeats 2000000 in
set_option maxRecDepth 100000 in
theorem rnext_nil (w : World) : Calls Tryz.prog 9 #[.pointer none] w fun e' w' => e' = .returned (.agg (spL 0 zr 0 0 0 0 zr zr false).toArray) ∧ Below w.heap.size w w' := by
 have SS := hide (store_step w (spL 0 zr 0 0 0 0 zr zr false).toArray rfl (one_spL _ _ _ _ _ _ _ _ _))
 have bz := gb1 w (.cells (spL 0 zr 0 0 0 0 zr zr false).toArray 53)
 have Q1 := hide (IsB.new w (spL 0 zr 0 0 0 0 zr zr false).toArray 53)
 go_enter Tryz.func9, Tryz.ntmps9
 go_wp2_with (first | (focus ((with_reducible refine wpList_store_w ?_ 53 (.tmp 2) (.tmp 5) ?_ ?_ ?_ SS.out ?_); rotate_left; rfl; rfl; rfl; rotate_left; rfl)))
 refine ret_step (p := 2) Tryz.results9 rfl rfl Q1.out ?_
 exact ⟨rfl, bz⟩

theorem step_len (S : Sk) : S.step.length = 36 := by unfold Sk.step; split <;> rfl
theorem step_one (S : Sk) : ∀ v ∈ S.step, v.oneCell' = true := by
 unfold Sk.step
 split <;> simp [spL, Value.oneCell']
theorem store_all {w : World} {b : Nat} {x : Array Value} (I : IsB w b x 53) (hx : x.size = 36) (cs : List Value) (h36 : cs.length = 36) (h1 : ∀ v ∈ cs, v.oneCell' = true) : ∃ w', (Instr.storeAt 53 (.pointer (some ⟨b, 0, none⟩)) (.agg cs.toArray)).run Tryz.prog w = .ok () w' ∧ IsB w' b cs.toArray 53 ∧ Kp [b] w w' := by
 obtain ⟨l, rfl⟩ : ∃ l : List Value, x = l.toArray := ⟨x.toList, by simp⟩
 have hl : l.length = 36 := by simpa using hx
 obtain ⟨w', h2, h3, h4⟩ := store_mid I 0 53 cs (by omega) (by rw [h36]; kernel_rfl) h1
 refine ⟨w', h2, ?_, h4⟩
 have e : l.take 0 ++ cs ++ l.drop (0 + cs.length) = cs := by simp [h36, hl]
 rwa [e] at h3

set_option maxHeartbeats 2000000 in
set_option maxRecDepth 100000 in
theorem rnext_search (b s m : Nat) (R : Rm) (S : Sk) (ws : List (Pl × Rf)) (hp : R.pl = 1) (w : World) (I : IsB w b (rmL R (.iface 133 (.pointer (some ⟨s, 0, none⟩)))).toArray 90) (X : SkAt w s m S ws) : Calls Tryz.prog 9 #[.pointer (some ⟨b, 0, none⟩)] w fun e' w' => e' = .returned (.agg S.step.toArray) ∧ Below w.heap.size w w' := by
 have b1 := gb1 w (.cells #[.int .i64 0, .int .i64 0, .int .i64 0, .int .u64 0, .int .i64 0, .int .u64 0, .int .i64 0, .int .i64 0, .int .u64 0, .int .i64 0, .int .i64 0, .int .u64 0, .int .i64 0, .int .u64 0, .int .i64 0, .int .i64 0, .int .u64 0, .int .i64 0, .int .u64 0, .int .i64 0, .int .i64 0, .int .i64 0, .int .u64 0, .slice none 0 0, .slice none 0 0, .int .i64 0, .int .i64 0, .int .u64 0, .int .i64 0, .int .u64 0, .int .i64 0, .int .i64 0, .int .u64 0, .int .i64 0, .int .u64 0, .bool false] 53)
 have I1 := I.below b1
 have X1 := X.below b1
 have Z1 := IsB.new w #[.int .i64 0, .int .i64 0, .int .i64 0, .int .u64 0, .int .i64 0, .int .u64 0, .int .i64 0, .int .i64 0, .int .u64 0, .int .i64 0, .int .i64 0, .int .u64 0, .int .i64 0, .int .u64 0, .int .i64 0, .int .i64 0, .int .u64 0, .int .i64 0, .int .u64 0, .int .i64 0, .int .i64 0, .int .i64 0, .int .u64 0, .slice none 0 0, .slice none 0 0, .int .i64 0, .int .i64 0, .int .u64 0, .int .i64 0, .int .u64 0, .int .i64 0, .int .i64 0, .int .u64 0, .int .i64 0, .int .u64 0, .bool false] 53
 have c2 := rc_pl I1
 rw [hp] at c2
 have c3 := rc_h I1
 go_enter Tryz.func9, Tryz.ntmps9
 go_wp2_with fail
 refine (next_any s m S ws _ X1).mono ?_
 rintro e1 w1 ⟨rfl, hb⟩
 have Z2 := Z1.below hb
 obtain ⟨cs, hcs, h36, hone⟩ : ∃ cs : List Value, S.step = cs ∧ cs.length = 36 ∧ ∀ v ∈ cs, v.oneCell' = true := ⟨S.step, rfl, step_len S, step_one S⟩
 rw [hcs]
 obtain ⟨w2, hs2, I2, k2⟩ := store_all Z2 rfl cs h36 hone
 have HS2 := hide hs2
 have F : Hid (IsB w2 w.heap.size cs.toArray 53 ∧ Below w.heap.size w w2) := ⟨I2, (b1.trans (hb.mono b1.size)).trans (k2.to_below (Nat.le_trans b1.size hb.size) (by simp))⟩
 clear hs2 I2 k2 Z2 Z1 hb b1 hone
 go_wp2_with (first | (focus ((with_reducible refine wpList_store_w ?_ 53 (.tmp 2) (.tmp 17) ?_ ?_ ?_ HS2.out ?_); rotate_left; rfl; rfl; rfl; rotate_left; rfl)))
 refine ret_step (p := 2) Tryz.results9 (by simpa using h36) rfl F.out.1 ?_
 exact ⟨by rw [hcs], F.out.2⟩

end Go.Proofs.YtokehogcenjefaaGreatDoor
