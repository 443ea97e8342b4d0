/- Tell, Dead, Tries, Wake, Next. -/
import Derived.Test.YtokehogcenjefaaGreatDoorSG
namespace Go.Proofs.YtokehogcenjefaaGreatDoor
open Go.RowKit Go.Maps Go.ChangeMaps

/-- It is told an answer. -/
def Sk.tell (S : Sk) (ws : List (Pl × Rf)) (a : An) : Sk × List (Pl × Rf) := if S.ov = true then (S, ws) else if S.lk = true then S.hearA ws a else S.hearH ws a
theorem SOk.tell {S : Sk} {ws : List (Pl × Rf)} (h : SOk S ws) {a : An} (ha : AOk a) : SOk (S.tell ws a).1 (S.tell ws a).2 := by
 unfold Sk.tell
 split
 · exact h
 · split
   · exact h.hearA ha
   · exact h.hearH ha
/-- It is told that who was found is dead. -/
def Sk.dead (S : Sk) (ws : List (Pl × Rf)) (a : An) : Sk × List (Pl × Rf) := if S.ov = true ∧ S.e = 0 then (S.passed, putW ws (S.plc S.rr) a.r) else (S, ws)
theorem SOk.dead {S : Sk} {ws : List (Pl × Rf)} (h : SOk S ws) {a : An} (ha : AOk a) : SOk (S.dead ws a).1 (S.dead ws a).2 := by
 unfold Sk.dead
 split
 · exact h.passed.put ha.ri
 · exact h
/-- A step's cells. -/
def spL (k : Int) (r : Rf) (q x y e : Int) (l r2 : Rf) (f : Bool) : List Value :=
 [.int .i64 k, .int .i64 r.id, .int .i64 r.rk, .int .u64 r.kn, .int .i64 r.ln, .int .u64 r.bt, .int .i64 q, .int .i64 x, .int .u64 y,
  .int .i64 0, .int .i64 0, .int .u64 0, .int .i64 0, .int .u64 0, .int .i64 0, .int .i64 0, .int .u64 0, .int .i64 0, .int .u64 0, .int .i64 0, .int .i64 0,
  .int .i64 e, .int .u64 0, .slice none 0 0, .slice none 0 0, .int .i64 l.id, .int .i64 l.rk, .int .u64 l.kn, .int .i64 l.ln, .int .u64 l.bt, .int .i64 r2.id, .int .i64 r2.rk, .int .u64 r2.kn, .int .i64 r2.ln, .int .u64 r2.bt, .bool f]
def Sk.to (S : Sk) : Rf := if S.lk = true then S.ah else S.pt
/-- What it wants. -/
def Sk.step (S : Sk) : List Value := if S.ov = true then spL 3 zr 0 0 0 S.e S.rl S.rr S.fd else spL 1 S.to 1 S.wl S.wb 0 zr zr false
theorem st_step {w : World} {b : Nat} {cs : List Value} (I : IsB w b cs.toArray 53) (hl : cs.length = 36) (k : Int) (r : Rf) (q x y e : Int) (l r2 : Rf) (f : Bool) : ∃ w', (Instr.storeAt 53 (.pointer (some ⟨b, 0, none⟩)) (.agg (spL k r q x y e l r2 f).toArray)).run Tryz.prog w = .ok () w' ∧ IsB w' b (spL k r q x y e l r2 f).toArray 53 ∧ Kp [b] w w' := by
 obtain ⟨w', h1, h2, h3⟩ := store_mid I 0 53 (spL k r q x y e l r2 f) (by simp [spL, hl]) (by kernel_rfl) (by simp [spL, Value.oneCell'])
 refine ⟨w', h1, ?_, h3⟩
 have e1 : cs.drop (0 + (spL k r q x y e l r2 f).length) = [] := List.drop_eq_nil_of_le (by simp [spL, hl])
 rw [e1] at h2
 simpa using h2
theorem step_info : (Tryz.prog.info? 53).map (·.size) = some 36 := by kernel_rfl
theorem ret_step {fn : Func} {p : Tmp} (hf : fn.results = #[.cell p 53]) {Q : Ending → World → Prop} {tmps : Array Value} {w : World} {b : Nat} {cs : Array Value} (hs : cs.size = 36)
   (hp : tmps.getD p undef = .pointer (some ⟨b, 0, none⟩)) (I : IsB w b cs 53) (hQ : Q (.returned (.agg cs)) w) :
   bodyPost Tryz.prog fn Q .ret ⟨tmps, []⟩ w :=
 bodyPost_ret (results_cell_row hf tmps w b 53 cs (0, 0) _ hp I Tryz.underlying53 rfl (by rw [hs]; exact step_info)) rfl hQ

set_option maxHeartbeats 2000000 in
set_option maxRecDepth 100000 in
theorem tell_over (b m : Nat) (S : Sk) (ws : List (Pl × Rf)) (a : An) (_ : SOk S ws) (_ : AOk a) (hov : S.ov = true) (w : World) (hR : Ranks w) (X : SkAt w b m S ws) : Calls Tryz.prog 142 #[.pointer (some ⟨b, 0, none⟩), .agg (anL a).toArray] w fun e w' => e = .returned (.tuple #[]) ∧ SkAt w' b m S ws ∧ Kp [b, m] w w' := by
 have mixed : Tryz.prog.follows .mixedOrders = true := by kernel_rfl
 have b1 := (Below.refl w.heap.size w).alloc (Nat.le_refl _) (.cells (anL a).toArray 62)
 have AB := hide (IsB.new w (anL a).toArray 62)
 have X1 := hide (X.below b1)
 have HR := hide (hR.below b1)
 have KZ : Hid (Kp [b, m] w (w.alloc (.cells (anL a).toArray 62))) := Kp.of_below b1
 have MD := hide (made_yes b m S ws _ (X.below b1))
 clear b1 X hR
 have y22 := cl_ov X1.out.blk
 rw [hov] at y22
 clear hov
 go_enter Tryz.func142, Tryz.ntmps142
 go_wp2_with fail
 refine MD.out.mono ?_
 rintro e w2 ⟨rfl, hw2⟩
 rw [hw2]
 clear hw2 w2 MD
 go_wp2
 refine bodyPost_end (results_none rfl _ _ _) rfl ?_
 exact ⟨rfl, X1.out, KZ.out⟩

set_option maxHeartbeats 2000000 in
set_option maxRecDepth 100000 in
theorem tell_ahead (b m : Nat) (S : Sk) (ws : List (Pl × Rf)) (a : An) (ho : SOk S ws) (ha : AOk a) (hov : S.ov = false) (hlk : S.lk = true) (w : World) (hR : Ranks w) (X : SkAt w b m S ws) : Calls Tryz.prog 142 #[.pointer (some ⟨b, 0, none⟩), .agg (anL a).toArray] w fun e w' => e = .returned (.tuple #[]) ∧ SkAt w' b m (S.hearA ws a).1 (S.hearA ws a).2 ∧ Kp [b, m] w w' := by
 have mixed : Tryz.prog.follows .mixedOrders = true := by kernel_rfl
 have b1 := (Below.refl w.heap.size w).alloc (Nat.le_refl _) (.cells (anL a).toArray 62)
 have AB := hide (IsB.new w (anL a).toArray 62)
 have X1 := hide (X.below b1)
 have HR := hide (hR.below b1)
 have KZ : Hid (Kp [b, m] w (w.alloc (.cells (anL a).toArray 62))) := Kp.of_below b1
 have MD := hide (made_yes b m S ws _ (X.below b1))
 clear b1 X hR
 have y22 := cl_ov X1.out.blk
 have y19 := cl_lk X1.out.blk
 rw [hov] at y22
 rw [hlk] at y19
 clear hov hlk
 have LA := hide (ld_ans AB.out)
 have CT := hide (hearA_any b m S ws a ho ha _ HR.out X1.out)
 go_enter Tryz.func142, Tryz.ntmps142
 go_wp2_with fail
 refine MD.out.mono ?_
 rintro e w2 ⟨rfl, hw2⟩
 rw [hw2]
 clear hw2 w2 MD
 go_wp2_with (first | (focus ((with_reducible refine wpList_load_w ?_ 62 (.tmp 3) ?_ ?_ LA.out ?_); rotate_left; rfl; rfl; rotate_left; rfl)))
 refine CT.out.mono ?_
 rintro e w6 ⟨rfl, X6, K6⟩
 have F6 := hide X6
 have K7 := hide (KZ.out.tr K6)
 clear CT X6 K6 LA y22 y19
 go_wp2
 refine bodyPost_end (results_none rfl _ _ _) rfl ?_
 exact ⟨rfl, F6.out, K7.out⟩

set_option maxHeartbeats 2000000 in
set_option maxRecDepth 100000 in
theorem tell_here (b m : Nat) (S : Sk) (ws : List (Pl × Rf)) (a : An) (ho : SOk S ws) (ha : AOk a) (hov : S.ov = false) (hlk : S.lk = false) (w : World) (hR : Ranks w) (X : SkAt w b m S ws) : Calls Tryz.prog 142 #[.pointer (some ⟨b, 0, none⟩), .agg (anL a).toArray] w fun e w' => e = .returned (.tuple #[]) ∧ SkAt w' b m (S.hearH ws a).1 (S.hearH ws a).2 ∧ Kp [b, m] w w' := by
 have mixed : Tryz.prog.follows .mixedOrders = true := by kernel_rfl
 have b1 := (Below.refl w.heap.size w).alloc (Nat.le_refl _) (.cells (anL a).toArray 62)
 have AB := hide (IsB.new w (anL a).toArray 62)
 have X1 := hide (X.below b1)
 have HR := hide (hR.below b1)
 have KZ : Hid (Kp [b, m] w (w.alloc (.cells (anL a).toArray 62))) := Kp.of_below b1
 have MD := hide (made_yes b m S ws _ (X.below b1))
 clear b1 X hR
 have y22 := cl_ov X1.out.blk
 have y19 := cl_lk X1.out.blk
 rw [hov] at y22
 rw [hlk] at y19
 clear hov hlk
 have LA := hide (ld_ans AB.out)
 have CT := hide (hearH_any b m S ws a ho ha _ HR.out X1.out)
 go_enter Tryz.func142, Tryz.ntmps142
 go_wp2_with fail
 refine MD.out.mono ?_
 rintro e w2 ⟨rfl, hw2⟩
 rw [hw2]
 clear hw2 w2 MD
 go_wp2_with (first | (focus ((with_reducible refine wpList_load_w ?_ 62 (.tmp 3) ?_ ?_ LA.out ?_); rotate_left; rfl; rfl; rotate_left; rfl)))
 refine CT.out.mono ?_
 rintro e w6 ⟨rfl, X6, K6⟩
 have F6 := hide X6
 have K7 := hide (KZ.out.tr K6)
 clear CT X6 K6 LA y22 y19
 go_wp2
 refine bodyPost_end (results_none rfl _ _ _) rfl ?_
 exact ⟨rfl, F6.out, K7.out⟩

theorem tell_any (b m : Nat) (S : Sk) (ws : List (Pl × Rf)) (a : An) (ho : SOk S ws) (ha : AOk a) (w : World) (hR : Ranks w) (X : SkAt w b m S ws) : Calls Tryz.prog 142 #[.pointer (some ⟨b, 0, none⟩), .agg (anL a).toArray] w fun e w' => e = .returned (.tuple #[]) ∧ SkAt w' b m (S.tell ws a).1 (S.tell ws a).2 ∧ Kp [b, m] w w' := by
 unfold Sk.tell
 by_cases hov : S.ov = true
 · rw [if_pos hov]
   exact tell_over b m S ws a ho ha hov w hR X
 · rw [if_neg hov]
   by_cases hlk : S.lk = true
   · rw [if_pos hlk]
     exact tell_ahead b m S ws a ho ha (by simpa using hov) hlk w hR X
   · rw [if_neg hlk]
     exact tell_here b m S ws a ho ha (by simpa using hov) (by simpa using hlk) w hR X











set_option maxHeartbeats 2000000 in
set_option maxRecDepth 100000 in
theorem wake_any (v : Value) (w : World) : Calls Tryz.prog 143 #[v] w fun e w' => e = .returned (.tuple #[]) ∧ w' = w := by
 go_enter Tryz.func143, Tryz.ntmps143
 go_wp2
 refine bodyPost_end (results_none rfl _ _ _) rfl ?_
 exact ⟨rfl, rfl⟩

set_option maxHeartbeats 2000000 in
set_option maxRecDepth 100000 in
theorem next_over (b m : Nat) (S : Sk) (ws : List (Pl × Rf)) (hov : S.ov = true) (w : World) (X : SkAt w b m S ws) : Calls Tryz.prog 141 #[.pointer (some ⟨b, 0, none⟩)] w fun e w' => e = .returned (.agg (spL 3 zr 0 0 0 S.e S.rl S.rr S.fd).toArray) ∧ Below w.heap.size w w' := by
 have mixed : Tryz.prog.follows .mixedOrders = true := by kernel_rfl
 have b1 := (Below.refl w.heap.size w).alloc (Nat.le_refl _) (.cells #[.int .i64 0, .int .i64 0, .int .i64 0, .int .u64 0, .int .i64 0, .int .u64 0, .int .i64 0, .int .i64 0, .int .u64 0, .int .i64 0, .int .i64 0, .int .u64 0, .int .i64 0, .int .u64 0, .int .i64 0, .int .i64 0, .int .u64 0, .int .i64 0, .int .u64 0, .int .i64 0, .int .i64 0, .int .i64 0, .int .u64 0, .slice none 0 0, .slice none 0 0, .int .i64 0, .int .i64 0, .int .u64 0, .int .i64 0, .int .u64 0, .int .i64 0, .int .i64 0, .int .u64 0, .int .i64 0, .int .u64 0, .bool false] 53)
 have PB : IsB (w.alloc (.cells #[.int .i64 0, .int .i64 0, .int .i64 0, .int .u64 0, .int .i64 0, .int .u64 0, .int .i64 0, .int .i64 0, .int .u64 0, .int .i64 0, .int .i64 0, .int .u64 0, .int .i64 0, .int .u64 0, .int .i64 0, .int .i64 0, .int .u64 0, .int .i64 0, .int .u64 0, .int .i64 0, .int .i64 0, .int .i64 0, .int .u64 0, .slice none 0 0, .slice none 0 0, .int .i64 0, .int .i64 0, .int .u64 0, .int .i64 0, .int .u64 0, .int .i64 0, .int .i64 0, .int .u64 0, .int .i64 0, .int .u64 0, .bool false] 53)) w.heap.size (spL 0 zr 0 0 0 0 zr zr false).toArray 53 := IsB.new w _ _
 have X1 := hide (X.below b1)
 have B1 := hide b1
 have MD := hide (made_yes b m S ws _ (X.below b1))
 have y22 := cl_ov X1.out.blk
 rw [hov] at y22
 clear b1 X hov
 have LR : Hid ((Instr.loadAt 51 (.pointer (some ⟨b, 23, none⟩))).run Tryz.prog (w.alloc (.cells #[.int .i64 0, .int .i64 0, .int .i64 0, .int .u64 0, .int .i64 0, .int .u64 0, .int .i64 0, .int .i64 0, .int .u64 0, .int .i64 0, .int .i64 0, .int .u64 0, .int .i64 0, .int .u64 0, .int .i64 0, .int .i64 0, .int .u64 0, .int .i64 0, .int .u64 0, .int .i64 0, .int .i64 0, .int .i64 0, .int .u64 0, .slice none 0 0, .slice none 0 0, .int .i64 0, .int .i64 0, .int .u64 0, .int .i64 0, .int .u64 0, .int .i64 0, .int .i64 0, .int .u64 0, .int .i64 0, .int .u64 0, .bool false] 53)) = .ok (.agg #[.int .i64 S.e, .int .u64 0, .slice none 0 0, .slice none 0 0, .int .i64 S.rl.id, .int .i64 S.rl.rk, .int .u64 S.rl.kn, .int .i64 S.rl.ln, .int .u64 S.rl.bt, .int .i64 S.rr.id, .int .i64 S.rr.rk, .int .u64 S.rr.kn, .int .i64 S.rr.ln, .int .u64 S.rr.bt, .bool S.fd]) (w.alloc (.cells #[.int .i64 0, .int .i64 0, .int .i64 0, .int .u64 0, .int .i64 0, .int .u64 0, .int .i64 0, .int .i64 0, .int .u64 0, .int .i64 0, .int .i64 0, .int .u64 0, .int .i64 0, .int .u64 0, .int .i64 0, .int .i64 0, .int .u64 0, .int .i64 0, .int .u64 0, .int .i64 0, .int .i64 0, .int .i64 0, .int .u64 0, .slice none 0 0, .slice none 0 0, .int .i64 0, .int .i64 0, .int .u64 0, .int .i64 0, .int .u64 0, .int .i64 0, .int .i64 0, .int .u64 0, .int .i64 0, .int .u64 0, .bool false] 53))) := ld_res X1.out.blk
 obtain ⟨w3, hs3, I3, k3⟩ := st_step PB rfl 3 zr 0 0 0 S.e S.rl S.rr S.fd
 have HS3 := hide hs3
 have I4 := hide I3
 have B4 : Hid (Below w.heap.size w w3) := B1.out.trans (k3.to_below (by simp) (by simp))
 clear hs3 I3 k3 PB
 go_enter Tryz.func141, Tryz.ntmps141
 go_wp2_with fail
 refine MD.out.mono ?_
 rintro e w2 ⟨rfl, hw2⟩
 rw [hw2]
 clear hw2 w2 MD
 go_wp2_with (first | (focus ((with_reducible refine wpList_load_w ?_ 51 (.tmp 14) ?_ ?_ LR.out ?_); rotate_left; rfl; rfl; rotate_left; rfl)) | (focus ((with_reducible refine wpList_store_w ?_ 53 (.tmp 2) (.tmp 16) ?_ ?_ ?_ HS3.out ?_); rotate_left; rfl; rfl; rfl; rotate_left; rfl)))
 try simp only [Act.put]
 try go_wp2
 refine ret_step (p := 2) (b := w.heap.size) Tryz.results141 rfl rfl I4.out ?_
 exact ⟨rfl, B4.out⟩

set_option maxHeartbeats 2000000 in
set_option maxRecDepth 100000 in
theorem next_here (b m : Nat) (S : Sk) (ws : List (Pl × Rf)) (hov : S.ov = false) (hlk : S.lk = false) (w : World) (X : SkAt w b m S ws) : Calls Tryz.prog 141 #[.pointer (some ⟨b, 0, none⟩)] w fun e w' => e = .returned (.agg (spL 1 S.pt 1 S.wl S.wb 0 zr zr false).toArray) ∧ Below w.heap.size w w' := by
 have mixed : Tryz.prog.follows .mixedOrders = true := by kernel_rfl
 have b1 := (Below.refl w.heap.size w).alloc (Nat.le_refl _) (.cells #[.int .i64 0, .int .i64 0, .int .i64 0, .int .u64 0, .int .i64 0, .int .u64 0, .int .i64 0, .int .i64 0, .int .u64 0, .int .i64 0, .int .i64 0, .int .u64 0, .int .i64 0, .int .u64 0, .int .i64 0, .int .i64 0, .int .u64 0, .int .i64 0, .int .u64 0, .int .i64 0, .int .i64 0, .int .i64 0, .int .u64 0, .slice none 0 0, .slice none 0 0, .int .i64 0, .int .i64 0, .int .u64 0, .int .i64 0, .int .u64 0, .int .i64 0, .int .i64 0, .int .u64 0, .int .i64 0, .int .u64 0, .bool false] 53)
 have PB : IsB (w.alloc (.cells #[.int .i64 0, .int .i64 0, .int .i64 0, .int .u64 0, .int .i64 0, .int .u64 0, .int .i64 0, .int .i64 0, .int .u64 0, .int .i64 0, .int .i64 0, .int .u64 0, .int .i64 0, .int .u64 0, .int .i64 0, .int .i64 0, .int .u64 0, .int .i64 0, .int .u64 0, .int .i64 0, .int .i64 0, .int .i64 0, .int .u64 0, .slice none 0 0, .slice none 0 0, .int .i64 0, .int .i64 0, .int .u64 0, .int .i64 0, .int .u64 0, .int .i64 0, .int .i64 0, .int .u64 0, .int .i64 0, .int .u64 0, .bool false] 53)) w.heap.size (spL 0 zr 0 0 0 0 zr zr false).toArray 53 := IsB.new w _ _
 have X1 := hide (X.below b1)
 have B1 := hide b1
 have MD := hide (made_yes b m S ws _ (X.below b1))
 have y22 := cl_ov X1.out.blk
 rw [hov] at y22
 clear b1 X hov
 have y19 := cl_lk X1.out.blk
 rw [hlk] at y19
 have hlk0 := hlk
 clear hlk
 have LH := hide (ld_here X1.out.blk)
 have b2 := (Below.refl (w.alloc (.cells #[.int .i64 0, .int .i64 0, .int .i64 0, .int .u64 0, .int .i64 0, .int .u64 0, .int .i64 0, .int .i64 0, .int .u64 0, .int .i64 0, .int .i64 0, .int .u64 0, .int .i64 0, .int .u64 0, .int .i64 0, .int .i64 0, .int .u64 0, .int .i64 0, .int .u64 0, .int .i64 0, .int .i64 0, .int .i64 0, .int .u64 0, .slice none 0 0, .slice none 0 0, .int .i64 0, .int .i64 0, .int .u64 0, .int .i64 0, .int .u64 0, .int .i64 0, .int .i64 0, .int .u64 0, .int .i64 0, .int .u64 0, .bool false] 53)).heap.size (w.alloc (.cells #[.int .i64 0, .int .i64 0, .int .i64 0, .int .u64 0, .int .i64 0, .int .u64 0, .int .i64 0, .int .i64 0, .int .u64 0, .int .i64 0, .int .i64 0, .int .u64 0, .int .i64 0, .int .u64 0, .int .i64 0, .int .i64 0, .int .u64 0, .int .i64 0, .int .u64 0, .int .i64 0, .int .i64 0, .int .i64 0, .int .u64 0, .slice none 0 0, .slice none 0 0, .int .i64 0, .int .i64 0, .int .u64 0, .int .i64 0, .int .u64 0, .int .i64 0, .int .i64 0, .int .u64 0, .int .i64 0, .int .u64 0, .bool false] 53))).alloc (Nat.le_refl _) (.cells S.pt.cells 29)
 have T2 := IsB.new (w.alloc (.cells #[.int .i64 0, .int .i64 0, .int .i64 0, .int .u64 0, .int .i64 0, .int .u64 0, .int .i64 0, .int .i64 0, .int .u64 0, .int .i64 0, .int .i64 0, .int .u64 0, .int .i64 0, .int .u64 0, .int .i64 0, .int .i64 0, .int .u64 0, .int .i64 0, .int .u64 0, .int .i64 0, .int .i64 0, .int .i64 0, .int .u64 0, .slice none 0 0, .slice none 0 0, .int .i64 0, .int .i64 0, .int .u64 0, .int .i64 0, .int .u64 0, .int .i64 0, .int .i64 0, .int .u64 0, .int .i64 0, .int .u64 0, .bool false] 53)) S.pt.cells 29
 have SN0 := store_new (w.alloc (.cells #[.int .i64 0, .int .i64 0, .int .i64 0, .int .u64 0, .int .i64 0, .int .u64 0, .int .i64 0, .int .i64 0, .int .u64 0, .int .i64 0, .int .i64 0, .int .u64 0, .int .i64 0, .int .u64 0, .int .i64 0, .int .i64 0, .int .u64 0, .int .i64 0, .int .u64 0, .int .i64 0, .int .i64 0, .int .i64 0, .int .u64 0, .slice none 0 0, .slice none 0 0, .int .i64 0, .int .i64 0, .int .u64 0, .int .i64 0, .int .u64 0, .int .i64 0, .int .i64 0, .int .u64 0, .int .i64 0, .int .u64 0, .bool false] 53)) S.pt
 rw [World.size_alloc] at T2 SN0
 have SN := hide SN0
 have X2 := hide (X1.out.below b2)
 have P2 := hide (PB.below b2)
 have B2 := hide (B1.out.trans (b2.mono B1.out.size))
 have z19 := cl_lk X2.out.blk
 rw [show S.lk = false from hlk0] at z19
 clear b2 SN0 PB
 go_enter Tryz.func141, Tryz.ntmps141
 go_wp2_with fail
 refine MD.out.mono ?_
 rintro e w2 ⟨rfl, hw2⟩
 rw [hw2]
 clear hw2 w2 MD
 have T3 := hide T2
 clear T2
 go_wp2_with (first | (focus ((with_reducible refine wpList_load_w ?_ 29 (.tmp 19) ?_ ?_ LH.out ?_); rotate_left; rfl; rfl; rotate_left; rfl)) | (focus ((with_reducible refine wpList_store_w ?_ 29 (.tmp 3) (.tmp 20) ?_ ?_ ?_ SN.out ?_); rotate_left; rfl; rfl; rfl; rotate_left; rfl)))
 try simp only [Act.put]
 try go_wp2_with fail
 generalize ((w.alloc (.cells #[.int .i64 0, .int .i64 0, .int .i64 0, .int .u64 0, .int .i64 0, .int .u64 0, .int .i64 0, .int .i64 0, .int .u64 0, .int .i64 0, .int .i64 0, .int .u64 0, .int .i64 0, .int .u64 0, .int .i64 0, .int .i64 0, .int .u64 0, .int .i64 0, .int .u64 0, .int .i64 0, .int .i64 0, .int .i64 0, .int .u64 0, .slice none 0 0, .slice none 0 0, .int .i64 0, .int .i64 0, .int .u64 0, .int .i64 0, .int .u64 0, .int .i64 0, .int .i64 0, .int .u64 0, .int .i64 0, .int .u64 0, .bool false] 53)).alloc (.cells S.pt.cells 29)) = W2 at *
 have X3 := X2
 have P3 := P2
 have B3 := B2
 have XD := hide (X3.out.below ((Below.refl _ _).drew))
 have TD := hide (T3.out.below ((Below.refl _ _).drew))
 obtain ⟨w3, hs3, I3, k3⟩ := st_step (P3.out.below ((Below.refl _ _).drew)) rfl 1 S.pt 1 S.wl S.wb 0 zr zr false
 have HS3 := hide hs3
 have I4 := hide I3
 have B4 : Hid (Below w.heap.size w w3) := (B3.out.drew).trans (k3.to_below (by have := B3.out.drew.size; omega) (by simp))
 clear hs3 I3 k3
 refine regionL 7 (fun w' => IsB w' b (skL S (.map (some m))).toArray 171 ∧ IsB w' (w.heap.size + 1) S.pt.cells 29) mixed ⟨XD.out.blk, TD.out⟩ (fun hHeld => ?_)
 generalize W2.drew = WD at *
 refine pkL (v := .agg S.pt.cells) 0 (some 29) rfl rfl ?_ (by assumption) ?_
 · intro w' hSw
   obtain ⟨q0, q1⟩ := hSw
   exact exec_load rfl rfl (load_ref q1 rfl)
 try simp only [Act.put, zqa, zqb, zqc]
 refine pkA (v := ?_) 1 (some 30) rfl rfl ?_ (by assumption) ?_
 rotate_left
 · intro w'
   go_simp
   try with_reducible rfl
 try simp only [Act.put, zqa, zqb, zqc]
 refine pkA (v := ?_) 2 (some 31) rfl rfl ?_ (by assumption) ?_
 rotate_left
 · intro w'
   go_simp
   try with_reducible rfl
 try simp only [Act.put, zqa, zqb, zqc]
 refine pkA (v := ?_) 3 (some 32) rfl rfl ?_ (by assumption) ?_
 rotate_left
 · intro w'
   go_simp
   try with_reducible rfl
 try simp only [Act.put, zqa, zqb, zqc]
 refine pkL (v := .agg #[.int .i64 S.wl, .int .u64 S.wb]) 4 (some 33) rfl rfl ?_ (by assumption) ?_
 · intro w' hSw
   obtain ⟨q0, q1⟩ := hSw
   exact exec_load rfl rfl (ld_list q0)
 try simp only [Act.put, zqa, zqb, zqc]
 refine pkA (v := ?_) 5 (some 34) rfl rfl ?_ (by assumption) ?_
 rotate_left
 · intro w'
   go_simp
   try with_reducible rfl
 try simp only [Act.put, zqa, zqb, zqc]
 refine pkA (v := .agg (spL 1 S.pt 1 S.wl S.wb 0 zr zr false).toArray) 6 (some 35) rfl rfl ?_ (by assumption) ?_
 · intro w'
   kernel_rfl
 try simp only [Act.put, zqa, zqb, zqc]
 refine lateL (i := 7) (by kernel_rfl) rfl (by decide) (by kernel_rfl) (fun K hK => ?_)
 refine step_store_w rfl 53 (.tmp 2) (.tmp 35) rfl rfl rfl HS3.out ?_
 refine hK.out _ _ ?_
 clear hK K
 try simp only [Act.put, List.setIfInBounds_toArray]
 refine doneL (by kernel_rfl) ?_ _
 clear hHeld
 try go_wp2
 refine ret_step (p := 2) (b := w.heap.size) Tryz.results141 rfl rfl I4.out ?_
 exact ⟨rfl, B4.out⟩

set_option maxHeartbeats 2000000 in
set_option maxRecDepth 100000 in
theorem next_ahead (b m : Nat) (S : Sk) (ws : List (Pl × Rf)) (hov : S.ov = false) (hlk : S.lk = true) (w : World) (X : SkAt w b m S ws) : Calls Tryz.prog 141 #[.pointer (some ⟨b, 0, none⟩)] w fun e w' => e = .returned (.agg (spL 1 S.ah 1 S.wl S.wb 0 zr zr false).toArray) ∧ Below w.heap.size w w' := by
 have mixed : Tryz.prog.follows .mixedOrders = true := by kernel_rfl
 have b1 := (Below.refl w.heap.size w).alloc (Nat.le_refl _) (.cells #[.int .i64 0, .int .i64 0, .int .i64 0, .int .u64 0, .int .i64 0, .int .u64 0, .int .i64 0, .int .i64 0, .int .u64 0, .int .i64 0, .int .i64 0, .int .u64 0, .int .i64 0, .int .u64 0, .int .i64 0, .int .i64 0, .int .u64 0, .int .i64 0, .int .u64 0, .int .i64 0, .int .i64 0, .int .i64 0, .int .u64 0, .slice none 0 0, .slice none 0 0, .int .i64 0, .int .i64 0, .int .u64 0, .int .i64 0, .int .u64 0, .int .i64 0, .int .i64 0, .int .u64 0, .int .i64 0, .int .u64 0, .bool false] 53)
 have PB : IsB (w.alloc (.cells #[.int .i64 0, .int .i64 0, .int .i64 0, .int .u64 0, .int .i64 0, .int .u64 0, .int .i64 0, .int .i64 0, .int .u64 0, .int .i64 0, .int .i64 0, .int .u64 0, .int .i64 0, .int .u64 0, .int .i64 0, .int .i64 0, .int .u64 0, .int .i64 0, .int .u64 0, .int .i64 0, .int .i64 0, .int .i64 0, .int .u64 0, .slice none 0 0, .slice none 0 0, .int .i64 0, .int .i64 0, .int .u64 0, .int .i64 0, .int .u64 0, .int .i64 0, .int .i64 0, .int .u64 0, .int .i64 0, .int .u64 0, .bool false] 53)) w.heap.size (spL 0 zr 0 0 0 0 zr zr false).toArray 53 := IsB.new w _ _
 have X1 := hide (X.below b1)
 have B1 := hide b1
 have MD := hide (made_yes b m S ws _ (X.below b1))
 have y22 := cl_ov X1.out.blk
 rw [hov] at y22
 clear b1 X hov
 have y19 := cl_lk X1.out.blk
 rw [hlk] at y19
 have hlk0 := hlk
 clear hlk
 have LH := hide (ld_here X1.out.blk)
 have b2 := (Below.refl (w.alloc (.cells #[.int .i64 0, .int .i64 0, .int .i64 0, .int .u64 0, .int .i64 0, .int .u64 0, .int .i64 0, .int .i64 0, .int .u64 0, .int .i64 0, .int .i64 0, .int .u64 0, .int .i64 0, .int .u64 0, .int .i64 0, .int .i64 0, .int .u64 0, .int .i64 0, .int .u64 0, .int .i64 0, .int .i64 0, .int .i64 0, .int .u64 0, .slice none 0 0, .slice none 0 0, .int .i64 0, .int .i64 0, .int .u64 0, .int .i64 0, .int .u64 0, .int .i64 0, .int .i64 0, .int .u64 0, .int .i64 0, .int .u64 0, .bool false] 53)).heap.size (w.alloc (.cells #[.int .i64 0, .int .i64 0, .int .i64 0, .int .u64 0, .int .i64 0, .int .u64 0, .int .i64 0, .int .i64 0, .int .u64 0, .int .i64 0, .int .i64 0, .int .u64 0, .int .i64 0, .int .u64 0, .int .i64 0, .int .i64 0, .int .u64 0, .int .i64 0, .int .u64 0, .int .i64 0, .int .i64 0, .int .i64 0, .int .u64 0, .slice none 0 0, .slice none 0 0, .int .i64 0, .int .i64 0, .int .u64 0, .int .i64 0, .int .u64 0, .int .i64 0, .int .i64 0, .int .u64 0, .int .i64 0, .int .u64 0, .bool false] 53))).alloc (Nat.le_refl _) (.cells S.pt.cells 29)
 have T2 := IsB.new (w.alloc (.cells #[.int .i64 0, .int .i64 0, .int .i64 0, .int .u64 0, .int .i64 0, .int .u64 0, .int .i64 0, .int .i64 0, .int .u64 0, .int .i64 0, .int .i64 0, .int .u64 0, .int .i64 0, .int .u64 0, .int .i64 0, .int .i64 0, .int .u64 0, .int .i64 0, .int .u64 0, .int .i64 0, .int .i64 0, .int .i64 0, .int .u64 0, .slice none 0 0, .slice none 0 0, .int .i64 0, .int .i64 0, .int .u64 0, .int .i64 0, .int .u64 0, .int .i64 0, .int .i64 0, .int .u64 0, .int .i64 0, .int .u64 0, .bool false] 53)) S.pt.cells 29
 have SN0 := store_new (w.alloc (.cells #[.int .i64 0, .int .i64 0, .int .i64 0, .int .u64 0, .int .i64 0, .int .u64 0, .int .i64 0, .int .i64 0, .int .u64 0, .int .i64 0, .int .i64 0, .int .u64 0, .int .i64 0, .int .u64 0, .int .i64 0, .int .i64 0, .int .u64 0, .int .i64 0, .int .u64 0, .int .i64 0, .int .i64 0, .int .i64 0, .int .u64 0, .slice none 0 0, .slice none 0 0, .int .i64 0, .int .i64 0, .int .u64 0, .int .i64 0, .int .u64 0, .int .i64 0, .int .i64 0, .int .u64 0, .int .i64 0, .int .u64 0, .bool false] 53)) S.pt
 rw [World.size_alloc] at T2 SN0
 have SN := hide SN0
 have X2 := hide (X1.out.below b2)
 have P2 := hide (PB.below b2)
 have B2 := hide (B1.out.trans (b2.mono B1.out.size))
 have z19 := cl_lk X2.out.blk
 rw [show S.lk = true from hlk0] at z19
 clear b2 SN0 PB
 go_enter Tryz.func141, Tryz.ntmps141
 go_wp2_with fail
 refine MD.out.mono ?_
 rintro e w2 ⟨rfl, hw2⟩
 rw [hw2]
 clear hw2 w2 MD
 have LA := hide (ld_ahead X2.out.blk)
 obtain ⟨w5, hs5, I5, k5⟩ := store_ref T2 (cs := S.ah.cells) rfl rfl (by kernel_rfl)
 have HS5 := hide hs5
 have T3 := hide I5
 have X3 := hide (X2.out.kp k5 (by have := X1.out.blk.lt; simp at this ⊢; omega) (by have := X1.out.map.lt; simp at this ⊢; omega))
 have P3 := hide (P2.out.kp k5 (by simp))
 have B3 : Hid (Below w.heap.size w w5) := B2.out.trans (k5.to_below (by have := B2.out.size; omega) (by simp))
 clear hs5 I5 k5 T2
 go_wp2_with (first | (focus ((with_reducible refine wpList_load_w ?_ 29 (.tmp 19) ?_ ?_ LH.out ?_); rotate_left; rfl; rfl; rotate_left; rfl)) | (focus ((with_reducible refine wpList_store_w ?_ 29 (.tmp 3) (.tmp 20) ?_ ?_ ?_ SN.out ?_); rotate_left; rfl; rfl; rfl; rotate_left; rfl)) | (focus ((with_reducible refine wpList_load_w ?_ 29 (.tmp 27) ?_ ?_ LA.out ?_); rotate_left; rfl; rfl; rotate_left; rfl)) | (focus ((with_reducible refine wpList_store_w ?_ 29 (.tmp 3) (.tmp 28) ?_ ?_ ?_ HS5.out ?_); rotate_left; rfl; rfl; rfl; rotate_left; rfl)))
 try simp only [Act.put]
 try go_wp2_with fail
 have XD := hide (X3.out.below ((Below.refl _ _).drew))
 have TD := hide (T3.out.below ((Below.refl _ _).drew))
 obtain ⟨w3, hs3, I3, k3⟩ := st_step (P3.out.below ((Below.refl _ _).drew)) rfl 1 S.ah 1 S.wl S.wb 0 zr zr false
 have HS3 := hide hs3
 have I4 := hide I3
 have B4 : Hid (Below w.heap.size w w3) := (B3.out.drew).trans (k3.to_below (by have := B3.out.drew.size; omega) (by simp))
 clear hs3 I3 k3
 refine regionL 7 (fun w' => IsB w' b (skL S (.map (some m))).toArray 171 ∧ IsB w' (w.heap.size + 1) S.ah.cells 29) mixed ⟨XD.out.blk, TD.out⟩ (fun hHeld => ?_)
 generalize w5.drew = WD at *
 refine pkL (v := .agg S.ah.cells) 0 (some 29) rfl rfl ?_ (by assumption) ?_
 · intro w' hSw
   obtain ⟨q0, q1⟩ := hSw
   exact exec_load rfl rfl (load_ref q1 rfl)
 try simp only [Act.put, zqa, zqb, zqc]
 refine pkA (v := ?_) 1 (some 30) rfl rfl ?_ (by assumption) ?_
 rotate_left
 · intro w'
   go_simp
   try with_reducible rfl
 try simp only [Act.put, zqa, zqb, zqc]
 refine pkA (v := ?_) 2 (some 31) rfl rfl ?_ (by assumption) ?_
 rotate_left
 · intro w'
   go_simp
   try with_reducible rfl
 try simp only [Act.put, zqa, zqb, zqc]
 refine pkA (v := ?_) 3 (some 32) rfl rfl ?_ (by assumption) ?_
 rotate_left
 · intro w'
   go_simp
   try with_reducible rfl
 try simp only [Act.put, zqa, zqb, zqc]
 refine pkL (v := .agg #[.int .i64 S.wl, .int .u64 S.wb]) 4 (some 33) rfl rfl ?_ (by assumption) ?_
 · intro w' hSw
   obtain ⟨q0, q1⟩ := hSw
   exact exec_load rfl rfl (ld_list q0)
 try simp only [Act.put, zqa, zqb, zqc]
 refine pkA (v := ?_) 5 (some 34) rfl rfl ?_ (by assumption) ?_
 rotate_left
 · intro w'
   go_simp
   try with_reducible rfl
 try simp only [Act.put, zqa, zqb, zqc]
 refine pkA (v := .agg (spL 1 S.ah 1 S.wl S.wb 0 zr zr false).toArray) 6 (some 35) rfl rfl ?_ (by assumption) ?_
 · intro w'
   kernel_rfl
 try simp only [Act.put, zqa, zqb, zqc]
 refine lateL (i := 7) (by kernel_rfl) rfl (by decide) (by kernel_rfl) (fun K hK => ?_)
 refine step_store_w rfl 53 (.tmp 2) (.tmp 35) rfl rfl rfl HS3.out ?_
 refine hK.out _ _ ?_
 clear hK K
 try simp only [Act.put, List.setIfInBounds_toArray]
 refine doneL (by kernel_rfl) ?_ _
 clear hHeld
 try go_wp2
 refine ret_step (p := 2) (b := w.heap.size) Tryz.results141 rfl rfl I4.out ?_
 exact ⟨rfl, B4.out⟩

theorem next_any (b m : Nat) (S : Sk) (ws : List (Pl × Rf)) (w : World) (X : SkAt w b m S ws) : Calls Tryz.prog 141 #[.pointer (some ⟨b, 0, none⟩)] w fun e w' => e = .returned (.agg S.step.toArray) ∧ Below w.heap.size w w' := by
 unfold Sk.step Sk.to
 by_cases hov : S.ov = true
 · rw [if_pos hov]
   exact next_over b m S ws hov w X
 · rw [if_neg hov]
   by_cases hlk : S.lk = true
   · rw [if_pos hlk]
     exact next_ahead b m S ws (by simpa using hov) hlk w X
   · rw [if_neg hlk]
     exact next_here b m S ws (by simpa using hov) (by simpa using hlk) w X

end Go.Proofs.YtokehogcenjefaaGreatDoor
