/- The document's Right, Head, Tail, NewEnd; the program's End. -/
import Derived.Test.YtdogdinkopocaaaDoorPI
namespace Go.Proofs.YtdogdinkopocaaaDoor
open Go.RowKit Go.Maps

theorem pow_step (k : Nat) (h : k < 63) : IntKind.u64.wrap (2 ^ k * 2) = ((2 ^ (k + 1) : Nat) : Int) := by
  have hp : 2 ^ (k + 1) ≤ 2 ^ 63 := Nat.pow_le_pow_right (by omega) (by omega)
  have e : ((2 : Int) ^ k * 2) = ((2 ^ (k + 1) : Nat) : Int) := by rw [Nat.pow_succ]; simp
  rw [e]
  have hq : 0 < 2 ^ (k + 1) := Nat.two_pow_pos _
  generalize 2 ^ (k + 1) = y at *
  exact wrap_u64 (by omega) (by omega)

set_option maxHeartbeats 400000 in
theorem power_any (n : Int) (h0 : 0 ≤ n) (h1 : n ≤ 63) (w : World) :
    Calls Tryd.prog 24 #[.int .i64 n] w fun e w' => e = .returned (.int .u64 (2 ^ n.toNat : Nat)) ∧ w' = w := by
  obtain ⟨m, rfl⟩ := Int.eq_ofNat_of_zero_le h0
  rw [Int.toNat_natCast]
  have hm : m ≤ 63 := by omega
  clear h0 h1
  go_enter Tryd.func24, Tryd.ntmps24
  go_wp2
  go_loop [0, 3] (fun i x => ∃ k : Nat, k ≤ m ∧ i = .int .i64 ((m - k : Nat) : Int) ∧ x = .int .u64 ((2 ^ k : Nat) : Int)) (fun i _ => (intOf i).toNat)
  case atStart => exact ⟨0, by omega, by simp, rfl⟩
  case round =>
    obtain ⟨k, hk, rfl, rfl⟩ := hrel
    by_cases hlt : k < m
    · have H : Hid (IntKind.u64.wrap (2 ^ k * 2) = ((2 ^ (k + 1) : Nat) : Int)) := pow_step k (by omega)
      go_wp2
      refine ⟨⟨k + 1, by omega, ?_, ?_⟩, ?_⟩
      · rw [show ((m - k : Nat) : Int) - 1 = ((m - (k + 1) : Nat) : Int) from by omega]
      · rw [H.out]
      · simp [intOf]; omega
    · go_wp2
      go_ret
      have e : k = m := by omega
      rw [e]; simp

set_option maxHeartbeats 400000 in
theorem rright_in (n b : Int) (h0 : 0 ≤ n) (h1 : n ≤ 32) (w : World) :
    Calls Tryd.prog 17 #[(.agg #[.int .i64 (n), .int .u64 (b)])] w fun e w' => e = .returned (.bool (decide (b < 2 ^ n.toNat))) ∧ Below w.heap.size w w' := by
  go_enter Tryd.func17, Tryd.ntmps17
  go_wp2
  go_quiet ((go_at_call 24; exact Calls.quiet_of_same (power_any _ (by omega) (by omega) _)))
  go_wp2
  go_ret
  exact ⟨rfl, below_drewN ((Below.refl _ _).alloc (Nat.le_refl _) _) _⟩

set_option maxHeartbeats 400000 in
theorem rright_out (n b : Int) (h : n < 0 ∨ 32 < n) (w : World) :
    Calls Tryd.prog 17 #[(.agg #[.int .i64 (n), .int .u64 (b)])] w fun e w' => e = .returned (.bool false) ∧ Below w.heap.size w w' := by
  rcases h with h | h
  · have h1 : decide (0 ≤ n) = false := by simp; omega
    go_enter Tryd.func17, Tryd.ntmps17
    go_wp2
    go_quiet (fail)
    go_wp2
    go_ret
    exact ⟨rfl, below_drewN ((Below.refl _ _).alloc (Nat.le_refl _) _) _⟩
  · have h0 : 0 ≤ n := by omega
    have h1 : decide (n ≤ 32) = false := by simp; omega
    go_enter Tryd.func17, Tryd.ntmps17
    go_wp2
    go_quiet (fail)
    go_wp2
    go_ret
    exact ⟨rfl, below_drewN ((Below.refl _ _).alloc (Nat.le_refl _) _) _⟩

theorem rright_any (n b : Int) (w : World) :
    Calls Tryd.prog 17 #[(.agg #[.int .i64 (n), .int .u64 (b)])] w fun e w' => e = .returned (.bool (rt n b)) ∧ Below w.heap.size w w' := by
  by_cases h : n < 0 ∨ 32 < n
  · have e : rt n b = false := by unfold rt; simp; omega
    rw [e]; exact rright_out n b h w
  · have e : rt n b = decide (b < 2 ^ n.toNat) := by unfold rt; rw [decide_eq_decide]; constructor <;> intro h' <;> first | exact h'.2.2 | exact ⟨by omega, by omega, h'⟩
    rw [e]; exact rright_in n b (by omega) (by omega) w


set_option maxHeartbeats 1000000 in
set_option maxRecDepth 100000 in
theorem rhead_ok (n : Int) (h0 : 0 ≤ n) (h1 : n ≤ 32) (w : World) : Calls Tryd.prog 5 #[.int .i64 n] w fun e w' => e = .returned (.tuple #[.agg #[.int .i64 0, .int .i64 1, .int .u64 0, .int .i64 n, .int .u64 0], .int .i64 0]) ∧ Below w.heap.size w w' := by
  have d0 : decide (n < 0) = false := decide_eq_false (by omega)
  have d1 : decide (32 < n) = false := decide_eq_false (by omega)
  go_enter Tryd.func5, Tryd.ntmps5
  go_wp2
  refine ret_rt (p := 2) (u := 3) (b := w.heap.size) Tryd.results5 rfl rfl rfl (IsB.new w #[.int .i64 0, .int .i64 1, .int .u64 0, .int .i64 n, .int .u64 0] 29) ?_
  exact ⟨rfl, (Below.refl _ w).alloc (Nat.le_refl _) _⟩

set_option maxHeartbeats 1000000 in
set_option maxRecDepth 100000 in
theorem rhead_bad (n : Int) (hn0 : n < 0 ∨ 32 < n) (w : World) : Calls Tryd.prog 5 #[.int .i64 n] w fun e w' => e = .returned (.tuple #[.agg #[.int .i64 0, .int .i64 0, .int .u64 0, .int .i64 0, .int .u64 0], .int .i64 90]) ∧ Below w.heap.size w w' := by
  by_cases hn : n < 0
  · have d0 : decide (n < 0) = true := decide_eq_true hn
    go_enter Tryd.func5, Tryd.ntmps5
    go_wp2
    refine ret_rt (p := 2) (u := 3) (b := w.heap.size) Tryd.results5 rfl rfl rfl (IsB.new w #[.int .i64 0, .int .i64 0, .int .u64 0, .int .i64 0, .int .u64 0] 29) ?_
    exact ⟨rfl, (Below.refl _ w).alloc (Nat.le_refl _) _⟩
  · have d0 : decide (n < 0) = false := decide_eq_false hn
    have d1 : decide (32 < n) = true := decide_eq_true (by omega)
    go_enter Tryd.func5, Tryd.ntmps5
    go_wp2
    refine ret_rt (p := 2) (u := 3) (b := w.heap.size) Tryd.results5 rfl rfl rfl (IsB.new w #[.int .i64 0, .int .i64 0, .int .u64 0, .int .i64 0, .int .u64 0] 29) ?_
    exact ⟨rfl, (Below.refl _ w).alloc (Nat.le_refl _) _⟩

set_option maxHeartbeats 1000000 in
set_option maxRecDepth 100000 in
theorem rtail_ok (n : Int) (h0 : 0 ≤ n) (h1 : n ≤ 32) (w : World) : Calls Tryd.prog 7 #[.int .i64 n] w fun e w' => e = .returned (.tuple #[.agg #[.int .i64 1, .int .i64 3, .int .u64 0, .int .i64 n, .int .u64 0], .int .i64 0]) ∧ Below w.heap.size w w' := by
  have d0 : decide (n < 0) = false := decide_eq_false (by omega)
  have d1 : decide (32 < n) = false := decide_eq_false (by omega)
  go_enter Tryd.func7, Tryd.ntmps7
  go_wp2
  refine ret_rt (p := 2) (u := 3) (b := w.heap.size) Tryd.results7 rfl rfl rfl (IsB.new w #[.int .i64 1, .int .i64 3, .int .u64 0, .int .i64 n, .int .u64 0] 29) ?_
  exact ⟨rfl, (Below.refl _ w).alloc (Nat.le_refl _) _⟩

set_option maxHeartbeats 1000000 in
set_option maxRecDepth 100000 in
theorem rtail_bad (n : Int) (hn0 : n < 0 ∨ 32 < n) (w : World) : Calls Tryd.prog 7 #[.int .i64 n] w fun e w' => e = .returned (.tuple #[.agg #[.int .i64 0, .int .i64 0, .int .u64 0, .int .i64 0, .int .u64 0], .int .i64 90]) ∧ Below w.heap.size w w' := by
  by_cases hn : n < 0
  · have d0 : decide (n < 0) = true := decide_eq_true hn
    go_enter Tryd.func7, Tryd.ntmps7
    go_wp2
    refine ret_rt (p := 2) (u := 3) (b := w.heap.size) Tryd.results7 rfl rfl rfl (IsB.new w #[.int .i64 0, .int .i64 0, .int .u64 0, .int .i64 0, .int .u64 0] 29) ?_
    exact ⟨rfl, (Below.refl _ w).alloc (Nat.le_refl _) _⟩
  · have d0 : decide (n < 0) = false := decide_eq_false hn
    have d1 : decide (32 < n) = true := decide_eq_true (by omega)
    go_enter Tryd.func7, Tryd.ntmps7
    go_wp2
    refine ret_rt (p := 2) (u := 3) (b := w.heap.size) Tryd.results7 rfl rfl rfl (IsB.new w #[.int .i64 0, .int .i64 0, .int .u64 0, .int .i64 0, .int .u64 0] 29) ?_
    exact ⟨rfl, (Below.refl _ w).alloc (Nat.le_refl _) _⟩

set_option maxHeartbeats 4000000 in
set_option maxRecDepth 100000 in
theorem pend_head (n : Int) (h0 : 0 ≤ n) (h1 : n ≤ 32) (w : World) (hR : Ranks w) : Calls Tryd.prog 11 #[.bool false, .int .i64 n] w fun e w' => ∃ p lp lm km ca cc, e = .returned (.tuple #[.pointer (some ⟨p, 0, none⟩), .int .i64 0]) ∧ PAt w' w.heap.size p lp lm km ca cc none 0 ⟨(0, 1, 0, n, 0), [], true, false, [], [], [], 0⟩ ∧ Below w.heap.size w w' := by
  have HR := hide hR
  clear hR
  have hE : Hid (newE (0, 1, 0, n, 0) = 0) := by
    have hrt : rt n 0 = true := decide_eq_true ⟨h0, h1, by exact_mod_cast Nat.pos_of_ne_zero (by simp)⟩
    show newE (0, 1, 0, n, 0) = 0
    unfold newE
    rw [if_pos ⟨by show ckE 1 0 = 0; decide, hrt⟩]
  go_enter Tryd.func11, Tryd.ntmps11
  go_wp2_with fail
  refine (head_ok n h0 h1 _).mono ?_; rintro e w1 ⟨rfl, b1⟩
  replace HR := hide (HR.out.below b1)
  have B := hide b1
  clear b1
  have ba := (Below.refl w1.heap.size w1).alloc (Nat.le_refl _) (.cells #[.int .i64 0, .int .i64 1, .int .u64 0, .int .i64 n, .int .u64 0] 29)
  have V := hide (IsB.new w1 #[.int .i64 0, .int .i64 1, .int .u64 0, .int .i64 n, .int .u64 0] 29)
  replace HR := hide (HR.out.below ba)
  replace B := hide (B.out.trans (ba.mono B.out.size))
  clear ba
  go_wp2_with fail
  generalize w1.alloc (.cells #[.int .i64 0, .int .i64 1, .int .u64 0, .int .i64 n, .int .u64 0] 29) = W2 at V HR B ⊢
  refine (lay_ok 0 1 0 n 0 none 0 [] (by simp) (fun _ => rfl) _ (Or.inl ⟨rfl, rfl⟩) HR.out (by decide) hE.out).mono ?_; rintro e w3 ⟨p, lp, lm, km, ca, cc, rfl, hX0, b3⟩
  have X := hide hX0
  have hs1 : w.heap.size ≤ W2.heap.size := B.out.size
  replace B := hide (B.out.trans (b3.mono B.out.size))
  clear b3 hX0
  go_wp2
  go_ret2
  have hX := X.out
  exact ⟨p, lp, lm, km, ca, cc, rfl, ⟨hX.blk, hX.by_, ⟨hX.lk.blk, hX.lk.map, hX.lk.recs, hX.lk.ap, hX.lk.al, Nat.le_trans hs1 hX.lk.lo.1, Nat.le_trans hs1 hX.lk.lo.2.1, fun e he => ⟨Nat.le_trans hs1 (hX.lk.lo.2.2 e he).1, Nat.le_trans hs1 (hX.lk.lo.2.2 e he).2⟩⟩, hX.kmap, hX.row, hX.ne, Nat.le_trans hs1 hX.lo.1, Nat.le_trans hs1 hX.lo.2.1, fun k hk => Nat.le_trans hs1 (hX.lo.2.2 k hk)⟩, B.out⟩

set_option maxHeartbeats 4000000 in
set_option maxRecDepth 100000 in
theorem pend_head_bad (n : Int) (hn : n < 0 ∨ 32 < n) (w : World) : Calls Tryd.prog 11 #[.bool false, .int .i64 n] w fun e w' => e = .returned (.tuple #[.pointer none, .int .i64 90]) ∧ Below w.heap.size w w' := by
  go_enter Tryd.func11, Tryd.ntmps11
  go_wp2_with fail
  refine (head_bad n hn _).mono ?_; rintro e w1 ⟨rfl, b1⟩
  have B := hide b1
  clear b1
  have ba := (Below.refl w1.heap.size w1).alloc (Nat.le_refl _) (.cells #[.int .i64 0, .int .i64 0, .int .u64 0, .int .i64 0, .int .u64 0] 29)
  replace B := hide (B.out.trans (ba.mono B.out.size))
  clear ba
  go_wp2
  go_ret2
  exact ⟨rfl, B.out⟩

set_option maxHeartbeats 4000000 in
set_option maxRecDepth 100000 in
theorem pend_tail (n : Int) (h0 : 0 ≤ n) (h1 : n ≤ 32) (w : World) (hR : Ranks w) : Calls Tryd.prog 11 #[.bool true, .int .i64 n] w fun e w' => ∃ p lp lm km ca cc, e = .returned (.tuple #[.pointer (some ⟨p, 0, none⟩), .int .i64 0]) ∧ PAt w' w.heap.size p lp lm km ca cc none 0 ⟨(1, 3, 0, n, 0), [], true, false, [], [], [], 0⟩ ∧ Below w.heap.size w w' := by
  have HR := hide hR
  clear hR
  have hE : Hid (newE (1, 3, 0, n, 0) = 0) := by
    have hrt : rt n 0 = true := decide_eq_true ⟨h0, h1, by exact_mod_cast Nat.pos_of_ne_zero (by simp)⟩
    show newE (1, 3, 0, n, 0) = 0
    unfold newE
    rw [if_pos ⟨by show ckE 3 0 = 0; decide, hrt⟩]
  go_enter Tryd.func11, Tryd.ntmps11
  go_wp2_with fail
  refine (tail_ok n h0 h1 _).mono ?_; rintro e w1 ⟨rfl, b1⟩
  replace HR := hide (HR.out.below b1)
  have B := hide b1
  clear b1
  have ba := (Below.refl w1.heap.size w1).alloc (Nat.le_refl _) (.cells #[.int .i64 1, .int .i64 3, .int .u64 0, .int .i64 n, .int .u64 0] 29)
  have V := hide (IsB.new w1 #[.int .i64 1, .int .i64 3, .int .u64 0, .int .i64 n, .int .u64 0] 29)
  replace HR := hide (HR.out.below ba)
  replace B := hide (B.out.trans (ba.mono B.out.size))
  clear ba
  go_wp2_with fail
  generalize w1.alloc (.cells #[.int .i64 1, .int .i64 3, .int .u64 0, .int .i64 n, .int .u64 0] 29) = W2 at V HR B ⊢
  refine (lay_ok 1 3 0 n 0 none 0 [] (by simp) (fun _ => rfl) _ (Or.inl ⟨rfl, rfl⟩) HR.out (by decide) hE.out).mono ?_; rintro e w3 ⟨p, lp, lm, km, ca, cc, rfl, hX0, b3⟩
  have X := hide hX0
  have hs1 : w.heap.size ≤ W2.heap.size := B.out.size
  replace B := hide (B.out.trans (b3.mono B.out.size))
  clear b3 hX0
  go_wp2
  go_ret2
  have hX := X.out
  exact ⟨p, lp, lm, km, ca, cc, rfl, ⟨hX.blk, hX.by_, ⟨hX.lk.blk, hX.lk.map, hX.lk.recs, hX.lk.ap, hX.lk.al, Nat.le_trans hs1 hX.lk.lo.1, Nat.le_trans hs1 hX.lk.lo.2.1, fun e he => ⟨Nat.le_trans hs1 (hX.lk.lo.2.2 e he).1, Nat.le_trans hs1 (hX.lk.lo.2.2 e he).2⟩⟩, hX.kmap, hX.row, hX.ne, Nat.le_trans hs1 hX.lo.1, Nat.le_trans hs1 hX.lo.2.1, fun k hk => Nat.le_trans hs1 (hX.lo.2.2 k hk)⟩, B.out⟩

set_option maxHeartbeats 4000000 in
set_option maxRecDepth 100000 in
theorem pend_tail_bad (n : Int) (hn : n < 0 ∨ 32 < n) (w : World) : Calls Tryd.prog 11 #[.bool true, .int .i64 n] w fun e w' => e = .returned (.tuple #[.pointer none, .int .i64 90]) ∧ Below w.heap.size w w' := by
  go_enter Tryd.func11, Tryd.ntmps11
  go_wp2_with fail
  refine (tail_bad n hn _).mono ?_; rintro e w1 ⟨rfl, b1⟩
  have B := hide b1
  clear b1
  have ba := (Below.refl w1.heap.size w1).alloc (Nat.le_refl _) (.cells #[.int .i64 0, .int .i64 0, .int .u64 0, .int .i64 0, .int .u64 0] 29)
  replace B := hide (B.out.trans (ba.mono B.out.size))
  clear ba
  go_wp2
  go_ret2
  exact ⟨rfl, B.out⟩

set_option maxHeartbeats 4000000 in
set_option maxRecDepth 100000 in
theorem rnewEnd_head_ok (n : Int) (h0 : 0 ≤ n) (h1 : n ≤ 32) (w : World) : Calls Tryd.prog 12 #[.bool false, .int .i64 n] w fun e w' => ∃ b, e = .returned (.tuple #[.pointer (some ⟨b, 0, none⟩), .int .i64 0]) ∧ Below w.heap.size w w' := by
  go_enter Tryd.func12, Tryd.ntmps12
  go_wp2_with fail
  refine (rhead_ok n h0 h1 _).mono ?_; rintro e w1 ⟨rfl, b1⟩
  have B := hide b1
  have hv0 : w.heap.size ≤ w1.heap.size := B.out.size
  clear b1
  have ba := (Below.refl w1.heap.size w1).alloc (Nat.le_refl _) (.cells #[.int .i64 0, .int .i64 1, .int .u64 0, .int .i64 n, .int .u64 0] 29)
  have V := hide (IsB.new w1 #[.int .i64 0, .int .i64 1, .int .u64 0, .int .i64 n, .int .u64 0] 29)
  replace B := hide (B.out.trans (ba.mono B.out.size))
  have hv1 : w.heap.size ≤ w1.heap.size := hv0
  clear ba
  go_wp2
  go_ret2
  refine ⟨w1.heap.size + 1, ?_, B.out.alloc B.out.size _⟩
  first | rfl | simp

set_option maxHeartbeats 4000000 in
set_option maxRecDepth 100000 in
theorem rnewEnd_head_bad (n : Int) (hn : n < 0 ∨ 32 < n) (w : World) : Calls Tryd.prog 12 #[.bool false, .int .i64 n] w fun e w' => e = .returned (.tuple #[.pointer none, .int .i64 90]) ∧ Below w.heap.size w w' := by
  go_enter Tryd.func12, Tryd.ntmps12
  go_wp2_with fail
  refine (rhead_bad n hn _).mono ?_; rintro e w1 ⟨rfl, b1⟩
  have B := hide b1
  have hv0 : w.heap.size ≤ w1.heap.size := B.out.size
  clear b1
  have ba := (Below.refl w1.heap.size w1).alloc (Nat.le_refl _) (.cells #[.int .i64 0, .int .i64 0, .int .u64 0, .int .i64 0, .int .u64 0] 29)
  have V := hide (IsB.new w1 #[.int .i64 0, .int .i64 0, .int .u64 0, .int .i64 0, .int .u64 0] 29)
  replace B := hide (B.out.trans (ba.mono B.out.size))
  have hv1 : w.heap.size ≤ w1.heap.size := hv0
  clear ba
  go_wp2
  go_ret2
  exact ⟨rfl, B.out⟩

set_option maxHeartbeats 4000000 in
set_option maxRecDepth 100000 in
theorem rnewEnd_tail_ok (n : Int) (h0 : 0 ≤ n) (h1 : n ≤ 32) (w : World) : Calls Tryd.prog 12 #[.bool true, .int .i64 n] w fun e w' => ∃ b, e = .returned (.tuple #[.pointer (some ⟨b, 0, none⟩), .int .i64 0]) ∧ Below w.heap.size w w' := by
  go_enter Tryd.func12, Tryd.ntmps12
  go_wp2_with fail
  refine (rhead_ok n h0 h1 _).mono ?_; rintro e w1 ⟨rfl, b1⟩
  have B := hide b1
  have hv0 : w.heap.size ≤ w1.heap.size := B.out.size
  clear b1
  have ba := (Below.refl w1.heap.size w1).alloc (Nat.le_refl _) (.cells #[.int .i64 0, .int .i64 1, .int .u64 0, .int .i64 n, .int .u64 0] 29)
  have V := hide (IsB.new w1 #[.int .i64 0, .int .i64 1, .int .u64 0, .int .i64 n, .int .u64 0] 29)
  replace B := hide (B.out.trans (ba.mono B.out.size))
  have hv1 : w.heap.size ≤ w1.heap.size := hv0
  clear ba
  go_wp2_with fail
  generalize w1.alloc (.cells #[.int .i64 0, .int .i64 1, .int .u64 0, .int .i64 n, .int .u64 0] 29) = W2 at V B ⊢
  generalize w1.heap.size = vb at V hv0 hv1 ⊢
  refine (rtail_ok n h0 h1 _).mono ?_; rintro e w3 ⟨rfl, b3⟩
  replace V := hide (V.out.below b3)
  replace B := hide (B.out.trans (b3.mono B.out.size))
  clear b3
  have z0 : w3.frozen? ⟨vb, 0, none⟩ = false := V.out.free 0
  have z1 : w3.frozen? ⟨vb, 1, none⟩ = false := V.out.free 1
  have z2 : w3.frozen? ⟨vb, 2, none⟩ = false := V.out.free 2
  have z3 : w3.frozen? ⟨vb, 3, none⟩ = false := V.out.free 3
  have z4 : w3.frozen? ⟨vb, 4, none⟩ = false := V.out.free 4
  have c0 : w3.cell? ⟨vb, 0, none⟩ = some (.int .i64 0) := V.out.cell 0
  have c1 : w3.cell? ⟨vb, 1, none⟩ = some (.int .i64 1) := V.out.cell 1
  have c2 : w3.cell? ⟨vb, 2, none⟩ = some (.int .u64 0) := V.out.cell 2
  have c3 : w3.cell? ⟨vb, 3, none⟩ = some (.int .i64 n) := V.out.cell 3
  have c4 : w3.cell? ⟨vb, 4, none⟩ = some (.int .u64 0) := V.out.cell 4
  have fl := V.out.lt
  go_wp2
  go_ret2
  clear z0 c0 z1 c1 z2 c2 z3 c3 z4 c4
  have k9 := putCells_kp vb [.int .i64 1, .int .i64 3, .int .u64 0, .int .i64 n, .int .u64 0] w3 0
  have B9 := ((Kp.of_below (S := []) B.out).trans k9 (fun j hj => by simp at hj; right; omega)).to_below (Nat.le_refl _) (by simp)
  refine ⟨w3.heap.size, ?_, B9.alloc B9.size _⟩
  first | rfl | simp

set_option maxHeartbeats 4000000 in
set_option maxRecDepth 100000 in
theorem rnewEnd_tail_bad (n : Int) (hn : n < 0 ∨ 32 < n) (w : World) : Calls Tryd.prog 12 #[.bool true, .int .i64 n] w fun e w' => e = .returned (.tuple #[.pointer none, .int .i64 90]) ∧ Below w.heap.size w w' := by
  go_enter Tryd.func12, Tryd.ntmps12
  go_wp2_with fail
  refine (rhead_bad n hn _).mono ?_; rintro e w1 ⟨rfl, b1⟩
  have B := hide b1
  have hv0 : w.heap.size ≤ w1.heap.size := B.out.size
  clear b1
  have ba := (Below.refl w1.heap.size w1).alloc (Nat.le_refl _) (.cells #[.int .i64 0, .int .i64 0, .int .u64 0, .int .i64 0, .int .u64 0] 29)
  have V := hide (IsB.new w1 #[.int .i64 0, .int .i64 0, .int .u64 0, .int .i64 0, .int .u64 0] 29)
  replace B := hide (B.out.trans (ba.mono B.out.size))
  have hv1 : w.heap.size ≤ w1.heap.size := hv0
  clear ba
  go_wp2_with fail
  generalize w1.alloc (.cells #[.int .i64 0, .int .i64 0, .int .u64 0, .int .i64 0, .int .u64 0] 29) = W2 at V B ⊢
  generalize w1.heap.size = vb at V hv0 hv1 ⊢
  refine (rtail_bad n hn _).mono ?_; rintro e w3 ⟨rfl, b3⟩
  replace V := hide (V.out.below b3)
  replace B := hide (B.out.trans (b3.mono B.out.size))
  clear b3
  have z0 : w3.frozen? ⟨vb, 0, none⟩ = false := V.out.free 0
  have z1 : w3.frozen? ⟨vb, 1, none⟩ = false := V.out.free 1
  have z2 : w3.frozen? ⟨vb, 2, none⟩ = false := V.out.free 2
  have z3 : w3.frozen? ⟨vb, 3, none⟩ = false := V.out.free 3
  have z4 : w3.frozen? ⟨vb, 4, none⟩ = false := V.out.free 4
  have c0 : w3.cell? ⟨vb, 0, none⟩ = some (.int .i64 0) := V.out.cell 0
  have c1 : w3.cell? ⟨vb, 1, none⟩ = some (.int .i64 0) := V.out.cell 1
  have c2 : w3.cell? ⟨vb, 2, none⟩ = some (.int .u64 0) := V.out.cell 2
  have c3 : w3.cell? ⟨vb, 3, none⟩ = some (.int .i64 0) := V.out.cell 3
  have c4 : w3.cell? ⟨vb, 4, none⟩ = some (.int .u64 0) := V.out.cell 4
  have fl := V.out.lt
  go_wp2
  go_ret2
  clear z0 c0 z1 c1 z2 c2 z3 c3 z4 c4
  have k9 := putCells_kp vb [.int .i64 0, .int .i64 0, .int .u64 0, .int .i64 0, .int .u64 0] w3 0
  have B9 := ((Kp.of_below (S := []) B.out).trans k9 (fun j hj => by simp at hj; right; omega)).to_below (Nat.le_refl _) (by simp)
  exact ⟨rfl, B9⟩

set_option maxHeartbeats 8000000 in
set_option maxRecDepth 100000 in
theorem pnew_bad (i0 i1 i2 i3 i4 : Int) (ba : Option Addr) (bn bc : Nat) (hb : 0 ≤ i4) (hbad : i1 ≠ 2 ∨ i0 < 2 ∨ 1024 ≤ i0 ∨ (1024 : Int) < (bn : Int) ∨ rt i3 i4 = false) (w : World) (hR : Ranks w) : Calls Tryd.prog 13 #[.agg #[.int .i64 i0, .int .i64 i1, .int .u64 i2, .int .i64 i3, .int .u64 i4], .slice ba bn bc] w fun e w' => e = .returned (.tuple #[.pointer none, .int .i64 90]) ∧ Below w.heap.size w w' := by
  by_cases h1 : i1 ≠ 2
  · have e1 : (i1 == 2) = false := by simpa using h1
    have b1 : Below w.heap.size w (w.alloc (.cells #[.int .i64 i0, .int .i64 i1, .int .u64 i2, .int .i64 i3, .int .u64 i4] 29)) := (Below.refl _ w).alloc (Nat.le_refl _) _
    have B := hide b1
    clear b1
    go_enter Tryd.func13, Tryd.ntmps13
    go_wp2
    go_ret2
    exact ⟨rfl, B.out⟩
  replace h1 : i1 = 2 := by omega
  subst h1
  by_cases h2 : i0 < 2
  · have e2 : decide (i0 < 2) = true := decide_eq_true h2
    have b1 : Below w.heap.size w (w.alloc (.cells #[.int .i64 i0, .int .i64 2, .int .u64 i2, .int .i64 i3, .int .u64 i4] 29)) := (Below.refl _ w).alloc (Nat.le_refl _) _
    have B := hide b1
    clear b1
    go_enter Tryd.func13, Tryd.ntmps13
    go_wp2
    go_ret2
    exact ⟨rfl, B.out⟩
  have e2 : decide (i0 < 2) = false := decide_eq_false h2
  by_cases h3 : 1024 ≤ i0
  · have e3 : decide (1024 ≤ i0) = true := decide_eq_true h3
    have b1 : Below w.heap.size w (w.alloc (.cells #[.int .i64 i0, .int .i64 2, .int .u64 i2, .int .i64 i3, .int .u64 i4] 29)) := (Below.refl _ w).alloc (Nat.le_refl _) _
    have B := hide b1
    clear b1
    go_enter Tryd.func13, Tryd.ntmps13
    go_wp2
    go_ret2
    exact ⟨rfl, B.out⟩
  have e3 : decide (1024 ≤ i0) = false := decide_eq_false h3
  by_cases h4 : (1024 : Int) < (bn : Int)
  · have e4 : decide ((1024 : Int) < (bn : Int)) = true := decide_eq_true h4
    have b1 : Below w.heap.size w (w.alloc (.cells #[.int .i64 i0, .int .i64 2, .int .u64 i2, .int .i64 i3, .int .u64 i4] 29)) := (Below.refl _ w).alloc (Nat.le_refl _) _
    have B := hide b1
    clear b1
    go_enter Tryd.func13, Tryd.ntmps13
    go_wp2
    go_ret2
    exact ⟨rfl, B.out⟩
  have e4 : decide ((1024 : Int) < (bn : Int)) = false := decide_eq_false h4
  have hq : rt i3 i4 = false := by
    rcases hbad with q | q | q | q | q
    · exact absurd rfl q
    · omega
    · omega
    · omega
    · exact q
  have hE : Hid (newE (i0, 2, i2, i3, i4) ≠ 0) := by
    show newE (i0, 2, i2, i3, i4) ≠ 0
    unfold newE
    rw [if_neg (by simp [hq])]
    decide
  have b1 : Below w.heap.size w (w.alloc (.cells #[.int .i64 i0, .int .i64 2, .int .u64 i2, .int .i64 i3, .int .u64 i4] 29)) := (Below.refl _ w).alloc (Nat.le_refl _) _
  have B := hide b1
  have HR := hide (hR.below b1)
  clear b1 hR
  go_enter Tryd.func13, Tryd.ntmps13
  go_wp2_with fail
  generalize w.alloc (.cells #[.int .i64 i0, .int .i64 2, .int .u64 i2, .int .i64 i3, .int .u64 i4] 29) = W1 at B HR ⊢
  refine (lay_bad i0 2 i2 i3 i4 _ _ HR.out hb hE.out).mono ?_; rintro e w2 ⟨rfl, b2⟩
  replace B := hide (B.out.trans (b2.mono B.out.size))
  clear b2
  go_wp2
  go_ret2
  exact ⟨rfl, B.out⟩

set_option maxHeartbeats 8000000 in
set_option maxRecDepth 100000 in
theorem rnew_bad (i0 i1 i2 i3 i4 : Int) (ba : Option Addr) (bn bc : Nat) (hbad : i1 ≠ 2 ∨ i0 < 2 ∨ 1024 ≤ i0 ∨ (1024 : Int) < (bn : Int) ∨ rt i3 i4 = false) (w : World) : Calls Tryd.prog 14 #[.agg #[.int .i64 i0, .int .i64 i1, .int .u64 i2, .int .i64 i3, .int .u64 i4], .slice ba bn bc] w fun e w' => e = .returned (.tuple #[.pointer none, .int .i64 90]) ∧ Below w.heap.size w w' := by
  by_cases h1 : i1 ≠ 2
  · have e1 : (i1 == 2) = false := by simpa using h1
    have b1 : Below w.heap.size w (w.alloc (.cells #[.int .i64 i0, .int .i64 i1, .int .u64 i2, .int .i64 i3, .int .u64 i4] 29)) := (Below.refl _ w).alloc (Nat.le_refl _) _
    have B := hide b1
    clear b1
    go_enter Tryd.func14, Tryd.ntmps14
    go_wp2
    go_ret2
    exact ⟨rfl, B.out⟩
  replace h1 : i1 = 2 := by omega
  subst h1
  rcases hq : rt i3 i4 with _ | _
  · replace hq := hide hq
    have b1 : Below w.heap.size w (w.alloc (.cells #[.int .i64 i0, .int .i64 2, .int .u64 i2, .int .i64 i3, .int .u64 i4] 29)) := (Below.refl _ w).alloc (Nat.le_refl _) _
    have V := hide (IsB.new w #[.int .i64 i0, .int .i64 2, .int .u64 i2, .int .i64 i3, .int .u64 i4] 29)
    have B := hide b1
    clear b1
    go_enter Tryd.func14, Tryd.ntmps14
    go_wp2_with fail
    generalize w.alloc (.cells #[.int .i64 i0, .int .i64 2, .int .u64 i2, .int .i64 i3, .int .u64 i4] 29) = W1 at V B ⊢
    generalize hH : w.heap.size = H at V ⊢
    replace hH := hide hH
    refine (rright_any i3 i4 _).mono ?_; rintro e w2 ⟨rfl, b2⟩
    replace V := hide (V.out.below b2)
    replace B := hide (B.out.trans (b2.mono B.out.size))
    clear b2
    have v0 : w2.cell? ⟨H, 0, none⟩ = some (.int .i64 i0) := V.out.cell 0
    have v1 : w2.cell? ⟨H, 1, none⟩ = some (.int .i64 2) := V.out.cell 1
    have v2 : w2.cell? ⟨H, 2, none⟩ = some (.int .u64 i2) := V.out.cell 2
    have v3 : w2.cell? ⟨H, 3, none⟩ = some (.int .i64 i3) := V.out.cell 3
    have v4 : w2.cell? ⟨H, 4, none⟩ = some (.int .u64 i4) := V.out.cell 4
    rw [hq.out]
    go_wp2
    go_ret2
    exact ⟨rfl, B.out⟩
  replace hq := hide hq
  by_cases h2 : i0 < 2
  · have e2 : decide (i0 < 2) = true := decide_eq_true h2
    have b1 : Below w.heap.size w (w.alloc (.cells #[.int .i64 i0, .int .i64 2, .int .u64 i2, .int .i64 i3, .int .u64 i4] 29)) := (Below.refl _ w).alloc (Nat.le_refl _) _
    have V := hide (IsB.new w #[.int .i64 i0, .int .i64 2, .int .u64 i2, .int .i64 i3, .int .u64 i4] 29)
    have B := hide b1
    clear b1
    go_enter Tryd.func14, Tryd.ntmps14
    go_wp2_with fail
    generalize w.alloc (.cells #[.int .i64 i0, .int .i64 2, .int .u64 i2, .int .i64 i3, .int .u64 i4] 29) = W1 at V B ⊢
    generalize hH : w.heap.size = H at V ⊢
    replace hH := hide hH
    refine (rright_any i3 i4 _).mono ?_; rintro e w2 ⟨rfl, b2⟩
    replace V := hide (V.out.below b2)
    replace B := hide (B.out.trans (b2.mono B.out.size))
    clear b2
    have v0 : w2.cell? ⟨H, 0, none⟩ = some (.int .i64 i0) := V.out.cell 0
    have v1 : w2.cell? ⟨H, 1, none⟩ = some (.int .i64 2) := V.out.cell 1
    have v2 : w2.cell? ⟨H, 2, none⟩ = some (.int .u64 i2) := V.out.cell 2
    have v3 : w2.cell? ⟨H, 3, none⟩ = some (.int .i64 i3) := V.out.cell 3
    have v4 : w2.cell? ⟨H, 4, none⟩ = some (.int .u64 i4) := V.out.cell 4
    rw [hq.out]
    go_wp2
    go_ret2
    exact ⟨rfl, B.out⟩
  have e2 : decide (i0 < 2) = false := decide_eq_false h2
  by_cases h3 : 1024 ≤ i0
  · have e3 : decide (1024 ≤ i0) = true := decide_eq_true h3
    have b1 : Below w.heap.size w (w.alloc (.cells #[.int .i64 i0, .int .i64 2, .int .u64 i2, .int .i64 i3, .int .u64 i4] 29)) := (Below.refl _ w).alloc (Nat.le_refl _) _
    have V := hide (IsB.new w #[.int .i64 i0, .int .i64 2, .int .u64 i2, .int .i64 i3, .int .u64 i4] 29)
    have B := hide b1
    clear b1
    go_enter Tryd.func14, Tryd.ntmps14
    go_wp2_with fail
    generalize w.alloc (.cells #[.int .i64 i0, .int .i64 2, .int .u64 i2, .int .i64 i3, .int .u64 i4] 29) = W1 at V B ⊢
    generalize hH : w.heap.size = H at V ⊢
    replace hH := hide hH
    refine (rright_any i3 i4 _).mono ?_; rintro e w2 ⟨rfl, b2⟩
    replace V := hide (V.out.below b2)
    replace B := hide (B.out.trans (b2.mono B.out.size))
    clear b2
    have v0 : w2.cell? ⟨H, 0, none⟩ = some (.int .i64 i0) := V.out.cell 0
    have v1 : w2.cell? ⟨H, 1, none⟩ = some (.int .i64 2) := V.out.cell 1
    have v2 : w2.cell? ⟨H, 2, none⟩ = some (.int .u64 i2) := V.out.cell 2
    have v3 : w2.cell? ⟨H, 3, none⟩ = some (.int .i64 i3) := V.out.cell 3
    have v4 : w2.cell? ⟨H, 4, none⟩ = some (.int .u64 i4) := V.out.cell 4
    rw [hq.out]
    go_wp2
    go_ret2
    exact ⟨rfl, B.out⟩
  have e3 : decide (1024 ≤ i0) = false := decide_eq_false h3
  by_cases h4 : (1024 : Int) < (bn : Int)
  · have e4 : decide ((1024 : Int) < (bn : Int)) = true := decide_eq_true h4
    have b1 : Below w.heap.size w (w.alloc (.cells #[.int .i64 i0, .int .i64 2, .int .u64 i2, .int .i64 i3, .int .u64 i4] 29)) := (Below.refl _ w).alloc (Nat.le_refl _) _
    have V := hide (IsB.new w #[.int .i64 i0, .int .i64 2, .int .u64 i2, .int .i64 i3, .int .u64 i4] 29)
    have B := hide b1
    clear b1
    go_enter Tryd.func14, Tryd.ntmps14
    go_wp2_with fail
    generalize w.alloc (.cells #[.int .i64 i0, .int .i64 2, .int .u64 i2, .int .i64 i3, .int .u64 i4] 29) = W1 at V B ⊢
    generalize hH : w.heap.size = H at V ⊢
    replace hH := hide hH
    refine (rright_any i3 i4 _).mono ?_; rintro e w2 ⟨rfl, b2⟩
    replace V := hide (V.out.below b2)
    replace B := hide (B.out.trans (b2.mono B.out.size))
    clear b2
    have v0 : w2.cell? ⟨H, 0, none⟩ = some (.int .i64 i0) := V.out.cell 0
    have v1 : w2.cell? ⟨H, 1, none⟩ = some (.int .i64 2) := V.out.cell 1
    have v2 : w2.cell? ⟨H, 2, none⟩ = some (.int .u64 i2) := V.out.cell 2
    have v3 : w2.cell? ⟨H, 3, none⟩ = some (.int .i64 i3) := V.out.cell 3
    have v4 : w2.cell? ⟨H, 4, none⟩ = some (.int .u64 i4) := V.out.cell 4
    rw [hq.out]
    go_wp2
    go_ret2
    exact ⟨rfl, B.out⟩
  rcases hbad with q | q | q | q | q
  · exact absurd rfl q
  · omega
  · omega
  · omega
  · rw [hq.out] at q; cases q

set_option maxHeartbeats 8000000 in
set_option maxRecDepth 100000 in
theorem rnew_ok (i0 i2 i3 i4 : Int) (ba : Option Addr) (bc : Nat) (bl : List Int) (hn : ba = none → bc = 0) (h2 : 2 ≤ i0) (h3 : i0 < 1024) (h4 : bl.length ≤ 1024) (hq : rt i3 i4 = true) (w : World) (hr : Rd8 w ba bl) : Calls Tryd.prog 14 #[.agg #[.int .i64 i0, .int .i64 2, .int .u64 i2, .int .i64 i3, .int .u64 i4], .slice ba bl.length bc] w fun e w' => ∃ b, e = .returned (.tuple #[.pointer (some ⟨b, 0, none⟩), .int .i64 0]) ∧ Below w.heap.size w w' := by
  have mixed : Tryd.prog.follows .mixedOrders = true := by kernel_rfl
  have hq := hide hq
  have e2 : decide (i0 < 2) = false := decide_eq_false (by omega)
  have e3 : decide (1024 ≤ i0) = false := decide_eq_false (by omega)
  have e4 : decide ((1024 : Int) < (bl.length : Int)) = false := decide_eq_false (by omega)
  have b1 : Below w.heap.size w (w.alloc (.cells #[.int .i64 i0, .int .i64 2, .int .u64 i2, .int .i64 i3, .int .u64 i4] 29)) := (Below.refl _ w).alloc (Nat.le_refl _) _
  have V := hide (IsB.new w #[.int .i64 i0, .int .i64 2, .int .u64 i2, .int .i64 i3, .int .u64 i4] 29)
  have B := hide b1
  clear b1
  go_enter Tryd.func14, Tryd.ntmps14
  go_wp2_with fail
  generalize w.alloc (.cells #[.int .i64 i0, .int .i64 2, .int .u64 i2, .int .i64 i3, .int .u64 i4] 29) = W1 at V B ⊢
  generalize hH : w.heap.size = H at V ⊢
  replace hH := hide hH
  refine (rright_any i3 i4 _).mono ?_; rintro e w2 ⟨rfl, b2⟩
  replace V := hide (V.out.below b2)
  replace B := hide (B.out.trans (b2.mono B.out.size))
  clear b2
  have v0 : w2.cell? ⟨H, 0, none⟩ = some (.int .i64 i0) := V.out.cell 0
  have v1 : w2.cell? ⟨H, 1, none⟩ = some (.int .i64 2) := V.out.cell 1
  have v2 : w2.cell? ⟨H, 2, none⟩ = some (.int .u64 i2) := V.out.cell 2
  have v3 : w2.cell? ⟨H, 3, none⟩ = some (.int .i64 i3) := V.out.cell 3
  have v4 : w2.cell? ⟨H, 4, none⟩ = some (.int .u64 i4) := V.out.cell 4
  rw [hq.out]
  go_wp2
  clear v0 v1 v2 v3 v4
  replace V := hide (V.out.below (Below.refl w2.heap.size w2).drew)
  replace B := hide B.out.drew
  refine regionL 8 (fun w' => w'.cell? ⟨H, 0, none⟩ = some (.int .i64 i0) ∧ w'.cell? ⟨H, 1, none⟩ = some (.int .i64 2) ∧ w'.cell? ⟨H, 2, none⟩ = some (.int .u64 i2) ∧ w'.cell? ⟨H, 3, none⟩ = some (.int .i64 i3) ∧ w'.cell? ⟨H, 4, none⟩ = some (.int .u64 i4)) mixed ⟨V.out.cell 0, V.out.cell 1, V.out.cell 2, V.out.cell 3, V.out.cell 4⟩ (fun hHeld => ?_)
  generalize hWd : w2.drew = w2d at *
  clear hWd
  refine pickL (v := ?_) 0 (some 31) rfl rfl (by kernel_rfl) (by kernel_rfl) (by kernel_rfl) (by decide) (by kernel_rfl) (by kernel_rfl) (fun _ _ _ h => h) (by rfl) ?_ (by assumption) ?_
  rotate_left
  · intro w' hSw
    obtain ⟨q0, q1, q2, q3, q4⟩ := hSw
    go_simp
    try with_reducible rfl
  try simp only [Act.put, List.setIfInBounds_toArray, List.set_cons_zero, List.set_cons_succ]
  refine pickA (v := ?_) 2 (some 33) rfl rfl (by kernel_rfl) (by kernel_rfl) (by kernel_rfl) (by decide) (fun _ _ _ h => h) (by rfl) ?_ (by assumption) ?_
  rotate_left
  · intro w'
    go_simp
    try with_reducible rfl
  try simp only [Act.put, List.setIfInBounds_toArray, List.set_cons_zero, List.set_cons_succ]
  refine oneL (i := 1) (by kernel_rfl) rfl (fun K hK => ?_)
  go_simp
  have ba3 := (Below.refl w2d.heap.size w2d).alloc (Nat.le_refl _) (.cells #[] 5)
  have hown : Rw (w2d.alloc (.cells #[] 5)) 5 1 (.slice (some ⟨w2d.heap.size, 0, none⟩) 0 0) 0 [] := ⟨rfl, Or.inr ⟨_, 0, #[], rfl, heap_new w2d _, Nat.le_refl _, by unfold maxLen; omega, by simp, rfl⟩⟩
  have hHr : H ≠ w2d.heap.size := fun e => by have := V.out.lt; omega
  have hro : w.heap.size ≤ w2d.heap.size := B.out.size
  replace V := hide (V.out.below ba3)
  replace B := hide (B.out.trans (ba3.mono B.out.size))
  clear ba3
  generalize w2d.alloc (.cells #[] 5) = W3 at V B hown ⊢
  generalize w2d.heap.size = rb at hown hro hHr ⊢
  refine hK.out _ _ ?_ ?_
  · exact ⟨V.out.cell 0, V.out.cell 1, V.out.cell 2, V.out.cell 3, V.out.cell 4⟩
  clear hK K
  try simp only [Act.put, List.setIfInBounds_toArray, List.set_cons_zero, List.set_cons_succ]
  clear hHeld
  have hHeld : (fun w' => w'.cell? ⟨H, 0, none⟩ = some (.int .i64 i0) ∧ w'.cell? ⟨H, 1, none⟩ = some (.int .i64 2) ∧ w'.cell? ⟨H, 2, none⟩ = some (.int .u64 i2) ∧ w'.cell? ⟨H, 3, none⟩ = some (.int .i64 i3) ∧ w'.cell? ⟨H, 4, none⟩ = some (.int .u64 i4)) W3 := ⟨V.out.cell 0, V.out.cell 1, V.out.cell 2, V.out.cell 3, V.out.cell 4⟩
  refine oneL (i := 3) (by kernel_rfl) rfl (fun K hK => ?_)
  obtain ⟨i9, hi, hz0, hz1, hz2⟩ := info_parts Tryd.infoU8
  have hsrc : (∃ a c, Value.slice ba bl.length bc = .slice (some a) bl.length c ∧ ∀ j u, (u8s bl)[j]? = some u → W3.cell? (a.add j) = some u) ∨ (Value.slice ba bl.length bc = .slice none 0 0 ∧ bl.length = 0) := by
    rcases hr.below B.out with ⟨q1, q2⟩ | ⟨ad, q1, q2⟩
    · right; subst q2; rw [q1, hn q1]; exact ⟨rfl, rfl⟩
    · left
      refine ⟨ad, bc, by rw [q1], fun j u hu => ?_⟩
      obtain ⟨hj, rfl⟩ := u8s_get hu
      exact q2 j hj
  obtain ⟨v9, w4, hrun, hrw, hgr, -, -⟩ := run_append_rw (P := Tryd.prog) W3 30 30 5 i9 _ 1 1 Tryd.underlying30 hi hz0 hz1 hz2 rfl _ 0 [] hown (.slice ba bl.length bc) bl.length (u8s bl) (by rw [u8s_len]; omega) hsrc (u8s_one bl) (by unfold maxLen; omega) (by omega)
  obtain ⟨qa, qc, hv9, -, -⟩ := hrw.shape
  subst hv9
  have k4 : Kp [rb] W3 w4 := Kp.of_grown hgr (fun k hk => Or.inl (by simp [Value.ownBlock] at hk; simp [hk]))
  have V4 := hide (V.out.kp k4 (by simp only [List.mem_cons, List.not_mem_nil, or_false]; exact hHr))
  have B4 := hide (((Kp.of_below (S := []) B.out).trans k4 (fun j hj => by simp at hj; right; omega)).to_below (Nat.le_refl _) (by simp))
  have HRN := hide hrun
  clear hrun hrw hgr hsrc hown i9 hi hz0 hz1 hz2 k4
  refine step_append_eq rfl (.tmp 32) (.tmp 33) 30 rfl _ _ (.slice qa (0 + bl.length) qc) w4 rfl rfl HRN.out ?_
  refine hK.out _ _ ?_ ?_
  · exact ⟨V4.out.cell 0, V4.out.cell 1, V4.out.cell 2, V4.out.cell 3, V4.out.cell 4⟩
  clear hK K
  try simp only [Act.put, List.setIfInBounds_toArray]
  clear hHeld
  have hHeld : (fun w' => w'.cell? ⟨H, 0, none⟩ = some (.int .i64 i0) ∧ w'.cell? ⟨H, 1, none⟩ = some (.int .i64 2) ∧ w'.cell? ⟨H, 2, none⟩ = some (.int .u64 i2) ∧ w'.cell? ⟨H, 3, none⟩ = some (.int .i64 i3) ∧ w'.cell? ⟨H, 4, none⟩ = some (.int .u64 i4)) w4 := ⟨V4.out.cell 0, V4.out.cell 1, V4.out.cell 2, V4.out.cell 3, V4.out.cell 4⟩
  try simp only [Nat.zero_add]
  refine pickA (v := ?_) 4 (some 35) rfl rfl (by kernel_rfl) (by kernel_rfl) (by kernel_rfl) (by decide) (fun _ _ _ h => h) (by rfl) ?_ (by assumption) ?_
  rotate_left
  · intro w'
    go_simp
    try with_reducible rfl
  try simp only [Act.put]
  refine oneL (i := 5) (by kernel_rfl) rfl (fun K hK => ?_)
  go_simp
  have b5 := (Below.refl w4.heap.size w4).alloc (Nat.le_refl _) (.cells #[.int .i64 i0, .int .i64 2, .int .u64 i2, .int .i64 i3, .int .u64 i4, .slice qa bl.length qc, .bool false, .bool false, .bool false, .slice none 0 0, .slice none 0 0] 67)
  have V5 := hide (V4.out.below b5)
  have B5 := hide (B4.out.trans (b5.mono B4.out.size))
  clear b5
  generalize w4.alloc (.cells #[.int .i64 i0, .int .i64 2, .int .u64 i2, .int .i64 i3, .int .u64 i4, .slice qa bl.length qc, .bool false, .bool false, .bool false, .slice none 0 0, .slice none 0 0] 67) = W5 at V5 B5 ⊢
  generalize w4.heap.size = pb
  refine hK.out _ _ ?_ ?_
  · exact ⟨V5.out.cell 0, V5.out.cell 1, V5.out.cell 2, V5.out.cell 3, V5.out.cell 4⟩
  clear hK K
  try simp only [Act.put, List.setIfInBounds_toArray, List.set_cons_zero, List.set_cons_succ]
  clear hHeld
  have hHeld : (fun w' => w'.cell? ⟨H, 0, none⟩ = some (.int .i64 i0) ∧ w'.cell? ⟨H, 1, none⟩ = some (.int .i64 2) ∧ w'.cell? ⟨H, 2, none⟩ = some (.int .u64 i2) ∧ w'.cell? ⟨H, 3, none⟩ = some (.int .i64 i3) ∧ w'.cell? ⟨H, 4, none⟩ = some (.int .u64 i4)) W5 := ⟨V5.out.cell 0, V5.out.cell 1, V5.out.cell 2, V5.out.cell 3, V5.out.cell 4⟩
  refine pickA (v := ?_) 6 (some 4) rfl rfl (by kernel_rfl) (by kernel_rfl) (by kernel_rfl) (by decide) (fun _ _ _ h => h) (by rfl) ?_ (by assumption) ?_
  rotate_left
  · intro w'
    go_simp
    try with_reducible rfl
  try simp only [Act.put, List.setIfInBounds_toArray, List.set_cons_zero, List.set_cons_succ]
  refine pickA (v := ?_) 7 (some 5) rfl rfl (by kernel_rfl) (by kernel_rfl) (by kernel_rfl) (by decide) (fun _ _ _ h => h) (by rfl) ?_ (by assumption) ?_
  rotate_left
  · intro w'
    go_simp
    try with_reducible rfl
  try simp only [Act.put, List.setIfInBounds_toArray, List.set_cons_zero, List.set_cons_succ]
  refine doneL (by kernel_rfl) ?_ _
  clear hHeld
  go_wp2
  go_ret2
  exact ⟨pb, rfl, B5.out⟩

end Go.Proofs.YtdogdinkopocaaaDoor
