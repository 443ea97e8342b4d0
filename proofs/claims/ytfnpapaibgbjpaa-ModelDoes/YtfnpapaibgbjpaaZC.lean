/- Call and Writes, by the program and by the document. -/
import Derived.Test.YtfnpapaibgbjpaaZA
namespace Go.Proofs.Ytfnpapaibgbjpaa
open Go.RowKit Go.Maps

/-- May a call be? -/
def okC (kd high : Int) (n : Nat) : Bool := decide (kd = 1 ∧ high = 0 ∧ n ≤ 1024 ∨ (kd = 2 ∨ kd = 3 ∨ kd = 4) ∧ high = 0 ∧ n = 0 ∨ kd = 5 ∧ n = 0)
def clE (kd high : Int) (n : Nat) : Int := if okC kd high n then 0 else 104
theorem clE_yes {kd high : Int} {n : Nat} (h : okC kd high n = true) : clE kd high n = 0 := by simp [clE, h]
theorem clE_no {kd high : Int} {n : Nat} (h : okC kd high n = false) : clE kd high n = 104 := by simp [clE, h]
/-- Does it write? -/
def wrB (kd : Int) : Bool := kd == 1 || kd == 2

set_option maxHeartbeats 4000000 in
set_option maxRecDepth 100000 in
theorem call_any (kd key high : Int) (a : Option Addr) (n c : Nat) (w : World) :
    Calls Try.prog 14 #[.agg #[.int .i64 kd, .int .u64 key, .int .u64 high, .slice a n c]] w fun e w' => e = .returned (.int .i64 (clE kd high n)) ∧ Below w.heap.size w w' := by
  have fin := hide ((Below.refl w.heap.size w).alloc (Nat.le_refl _) (.cells #[.int .i64 kd, .int .u64 key, .int .u64 high, .slice a n c] 27))
  by_cases k1 : kd = 1
  · subst k1
    by_cases hh : high = 0
    · subst hh
      by_cases hn : n ≤ 1024
      · have hd : decide ((n : Int) ≤ 1024) = true := by simp; omega
        have hE : Hid (clE 1 0 n = 0) := by show _ = _; unfold clE okC; simp; omega
        go_enter Try.func14, Try.ntmps14
        go_wp2
        go_ret
        exact ⟨by rw [hE.out]; rfl, fin.out⟩
      · have hd : decide ((n : Int) ≤ 1024) = false := by simp; omega
        have hE : Hid (clE 1 0 n = 104) := by show _ = _; unfold clE okC; simp; omega
        go_enter Try.func14, Try.ntmps14
        go_wp2
        go_ret
        exact ⟨by rw [hE.out]; rfl, fin.out⟩
    · have hhb : (high == 0) = false := by simpa using hh
      have hE : Hid (clE 1 high n = 104) := by show _ = _; unfold clE okC; simp; omega
      by_cases hn : n ≤ 1024
      · have hd : decide ((n : Int) ≤ 1024) = true := by simp; omega
        go_enter Try.func14, Try.ntmps14
        go_wp2
        go_ret
        exact ⟨by rw [hE.out]; rfl, fin.out⟩
      · have hd : decide ((n : Int) ≤ 1024) = false := by simp; omega
        go_enter Try.func14, Try.ntmps14
        go_wp2
        go_ret
        exact ⟨by rw [hE.out]; rfl, fin.out⟩
  by_cases k2 : kd = 2
  · subst k2
    by_cases hh : high = 0
    · subst hh
      by_cases hn : n = 0
      · subst hn
        have hE : Hid (clE 2 0 0 = 0) := by show _ = _; unfold clE okC; simp
        go_enter Try.func14, Try.ntmps14
        go_wp2
        go_ret
        exact ⟨by rw [hE.out]; rfl, fin.out⟩
      · have hd : ((n : Int) == 0) = false := by simpa using hn
        have hE : Hid (clE 2 0 n = 104) := by show _ = _; unfold clE okC; simp; omega
        go_enter Try.func14, Try.ntmps14
        go_wp2
        go_ret
        exact ⟨by rw [hE.out]; rfl, fin.out⟩
    · have hhb : (high == 0) = false := by simpa using hh
      have hE : Hid (clE 2 high n = 104) := by show _ = _; unfold clE okC; simp; omega
      by_cases hn : n = 0
      · subst hn
        go_enter Try.func14, Try.ntmps14
        go_wp2
        go_ret
        exact ⟨by rw [hE.out]; rfl, fin.out⟩
      · have hd : ((n : Int) == 0) = false := by simpa using hn
        go_enter Try.func14, Try.ntmps14
        go_wp2
        go_ret
        exact ⟨by rw [hE.out]; rfl, fin.out⟩
  by_cases k3 : kd = 3
  · subst k3
    by_cases hh : high = 0
    · subst hh
      by_cases hn : n = 0
      · subst hn
        have hE : Hid (clE 3 0 0 = 0) := by show _ = _; unfold clE okC; simp
        go_enter Try.func14, Try.ntmps14
        go_wp2
        go_ret
        exact ⟨by rw [hE.out]; rfl, fin.out⟩
      · have hd : ((n : Int) == 0) = false := by simpa using hn
        have hE : Hid (clE 3 0 n = 104) := by show _ = _; unfold clE okC; simp; omega
        go_enter Try.func14, Try.ntmps14
        go_wp2
        go_ret
        exact ⟨by rw [hE.out]; rfl, fin.out⟩
    · have hhb : (high == 0) = false := by simpa using hh
      have hE : Hid (clE 3 high n = 104) := by show _ = _; unfold clE okC; simp; omega
      by_cases hn : n = 0
      · subst hn
        go_enter Try.func14, Try.ntmps14
        go_wp2
        go_ret
        exact ⟨by rw [hE.out]; rfl, fin.out⟩
      · have hd : ((n : Int) == 0) = false := by simpa using hn
        go_enter Try.func14, Try.ntmps14
        go_wp2
        go_ret
        exact ⟨by rw [hE.out]; rfl, fin.out⟩
  by_cases k4 : kd = 4
  · subst k4
    by_cases hh : high = 0
    · subst hh
      by_cases hn : n = 0
      · subst hn
        have hE : Hid (clE 4 0 0 = 0) := by show _ = _; unfold clE okC; simp
        go_enter Try.func14, Try.ntmps14
        go_wp2
        go_ret
        exact ⟨by rw [hE.out]; rfl, fin.out⟩
      · have hd : ((n : Int) == 0) = false := by simpa using hn
        have hE : Hid (clE 4 0 n = 104) := by show _ = _; unfold clE okC; simp; omega
        go_enter Try.func14, Try.ntmps14
        go_wp2
        go_ret
        exact ⟨by rw [hE.out]; rfl, fin.out⟩
    · have hhb : (high == 0) = false := by simpa using hh
      have hE : Hid (clE 4 high n = 104) := by show _ = _; unfold clE okC; simp; omega
      by_cases hn : n = 0
      · subst hn
        go_enter Try.func14, Try.ntmps14
        go_wp2
        go_ret
        exact ⟨by rw [hE.out]; rfl, fin.out⟩
      · have hd : ((n : Int) == 0) = false := by simpa using hn
        go_enter Try.func14, Try.ntmps14
        go_wp2
        go_ret
        exact ⟨by rw [hE.out]; rfl, fin.out⟩
  by_cases k5 : kd = 5
  · subst k5
    by_cases hn : n = 0
    · subst hn
      have hE : Hid (clE 5 high 0 = 0) := by show _ = _; unfold clE okC; simp
      go_enter Try.func14, Try.ntmps14
      go_wp2
      go_ret
      exact ⟨by rw [hE.out]; rfl, fin.out⟩
    · have hd : ((n : Int) == 0) = false := by simpa using hn
      have hE : Hid (clE 5 high n = 104) := by show _ = _; unfold clE okC; simp; omega
      go_enter Try.func14, Try.ntmps14
      go_wp2
      go_ret
      exact ⟨by rw [hE.out]; rfl, fin.out⟩
  have hE : Hid (clE kd high n = 104) := by show _ = _; unfold clE okC; simp; omega
  go_enter Try.func14, Try.ntmps14
  go_wp2
  go_ret
  exact ⟨by rw [hE.out]; rfl, fin.out⟩

set_option maxHeartbeats 4000000 in
set_option maxRecDepth 100000 in
theorem rcall_any (kd key high : Int) (a : Option Addr) (n c : Nat) (w : World) :
    Calls Try.prog 15 #[.agg #[.int .i64 kd, .int .u64 key, .int .u64 high, .slice a n c]] w fun e w' => e = .returned (.int .i64 (clE kd high n)) ∧ Below w.heap.size w w' := by
  have fin := hide ((Below.refl w.heap.size w).alloc (Nat.le_refl _) (.cells #[.int .i64 kd, .int .u64 key, .int .u64 high, .slice a n c] 27))
  by_cases k1 : kd = 1
  · subst k1
    by_cases hh : high = 0
    · subst hh
      by_cases hn : n ≤ 1024
      · have hd : decide ((n : Int) ≤ 1024) = true := by simp; omega
        have hE : Hid (clE 1 0 n = 0) := by show _ = _; unfold clE okC; simp; omega
        go_enter Try.func15, Try.ntmps15
        go_wp2
        go_ret
        exact ⟨by rw [hE.out]; rfl, fin.out⟩
      · have hd : decide ((n : Int) ≤ 1024) = false := by simp; omega
        have hE : Hid (clE 1 0 n = 104) := by show _ = _; unfold clE okC; simp; omega
        go_enter Try.func15, Try.ntmps15
        go_wp2
        go_ret
        exact ⟨by rw [hE.out]; rfl, fin.out⟩
    · have hhb : (high == 0) = false := by simpa using hh
      have hE : Hid (clE 1 high n = 104) := by show _ = _; unfold clE okC; simp; omega
      by_cases hn : n ≤ 1024
      · have hd : decide ((n : Int) ≤ 1024) = true := by simp; omega
        go_enter Try.func15, Try.ntmps15
        go_wp2
        go_ret
        exact ⟨by rw [hE.out]; rfl, fin.out⟩
      · have hd : decide ((n : Int) ≤ 1024) = false := by simp; omega
        go_enter Try.func15, Try.ntmps15
        go_wp2
        go_ret
        exact ⟨by rw [hE.out]; rfl, fin.out⟩
  by_cases k2 : kd = 2
  · subst k2
    by_cases hh : high = 0
    · subst hh
      by_cases hn : n = 0
      · subst hn
        have hE : Hid (clE 2 0 0 = 0) := by show _ = _; unfold clE okC; simp
        go_enter Try.func15, Try.ntmps15
        go_wp2
        go_ret
        exact ⟨by rw [hE.out]; rfl, fin.out⟩
      · have hd : ((n : Int) == 0) = false := by simpa using hn
        have hE : Hid (clE 2 0 n = 104) := by show _ = _; unfold clE okC; simp; omega
        go_enter Try.func15, Try.ntmps15
        go_wp2
        go_ret
        exact ⟨by rw [hE.out]; rfl, fin.out⟩
    · have hhb : (high == 0) = false := by simpa using hh
      have hE : Hid (clE 2 high n = 104) := by show _ = _; unfold clE okC; simp; omega
      by_cases hn : n = 0
      · subst hn
        go_enter Try.func15, Try.ntmps15
        go_wp2
        go_ret
        exact ⟨by rw [hE.out]; rfl, fin.out⟩
      · have hd : ((n : Int) == 0) = false := by simpa using hn
        go_enter Try.func15, Try.ntmps15
        go_wp2
        go_ret
        exact ⟨by rw [hE.out]; rfl, fin.out⟩
  by_cases k3 : kd = 3
  · subst k3
    by_cases hh : high = 0
    · subst hh
      by_cases hn : n = 0
      · subst hn
        have hE : Hid (clE 3 0 0 = 0) := by show _ = _; unfold clE okC; simp
        go_enter Try.func15, Try.ntmps15
        go_wp2
        go_ret
        exact ⟨by rw [hE.out]; rfl, fin.out⟩
      · have hd : ((n : Int) == 0) = false := by simpa using hn
        have hE : Hid (clE 3 0 n = 104) := by show _ = _; unfold clE okC; simp; omega
        go_enter Try.func15, Try.ntmps15
        go_wp2
        go_ret
        exact ⟨by rw [hE.out]; rfl, fin.out⟩
    · have hhb : (high == 0) = false := by simpa using hh
      have hE : Hid (clE 3 high n = 104) := by show _ = _; unfold clE okC; simp; omega
      by_cases hn : n = 0
      · subst hn
        go_enter Try.func15, Try.ntmps15
        go_wp2
        go_ret
        exact ⟨by rw [hE.out]; rfl, fin.out⟩
      · have hd : ((n : Int) == 0) = false := by simpa using hn
        go_enter Try.func15, Try.ntmps15
        go_wp2
        go_ret
        exact ⟨by rw [hE.out]; rfl, fin.out⟩
  by_cases k4 : kd = 4
  · subst k4
    by_cases hh : high = 0
    · subst hh
      by_cases hn : n = 0
      · subst hn
        have hE : Hid (clE 4 0 0 = 0) := by show _ = _; unfold clE okC; simp
        go_enter Try.func15, Try.ntmps15
        go_wp2
        go_ret
        exact ⟨by rw [hE.out]; rfl, fin.out⟩
      · have hd : ((n : Int) == 0) = false := by simpa using hn
        have hE : Hid (clE 4 0 n = 104) := by show _ = _; unfold clE okC; simp; omega
        go_enter Try.func15, Try.ntmps15
        go_wp2
        go_ret
        exact ⟨by rw [hE.out]; rfl, fin.out⟩
    · have hhb : (high == 0) = false := by simpa using hh
      have hE : Hid (clE 4 high n = 104) := by show _ = _; unfold clE okC; simp; omega
      by_cases hn : n = 0
      · subst hn
        go_enter Try.func15, Try.ntmps15
        go_wp2
        go_ret
        exact ⟨by rw [hE.out]; rfl, fin.out⟩
      · have hd : ((n : Int) == 0) = false := by simpa using hn
        go_enter Try.func15, Try.ntmps15
        go_wp2
        go_ret
        exact ⟨by rw [hE.out]; rfl, fin.out⟩
  by_cases k5 : kd = 5
  · subst k5
    by_cases hn : n = 0
    · subst hn
      have hE : Hid (clE 5 high 0 = 0) := by show _ = _; unfold clE okC; simp
      go_enter Try.func15, Try.ntmps15
      go_wp2
      go_ret
      exact ⟨by rw [hE.out]; rfl, fin.out⟩
    · have hd : ((n : Int) == 0) = false := by simpa using hn
      have hE : Hid (clE 5 high n = 104) := by show _ = _; unfold clE okC; simp; omega
      go_enter Try.func15, Try.ntmps15
      go_wp2
      go_ret
      exact ⟨by rw [hE.out]; rfl, fin.out⟩
  have hE : Hid (clE kd high n = 104) := by show _ = _; unfold clE okC; simp; omega
  go_enter Try.func15, Try.ntmps15
  go_wp2
  go_ret
  exact ⟨by rw [hE.out]; rfl, fin.out⟩

set_option maxHeartbeats 4000000 in
set_option maxRecDepth 100000 in
theorem writes_any (kd key high : Int) (a : Option Addr) (n c : Nat) (w : World) :
    Calls Try.prog 16 #[.agg #[.int .i64 kd, .int .u64 key, .int .u64 high, .slice a n c]] w fun e w' => e = .returned (.bool (wrB kd)) ∧ Below w.heap.size w w' := by
  have fin := hide ((Below.refl w.heap.size w).alloc (Nat.le_refl _) (.cells #[.int .i64 kd, .int .u64 key, .int .u64 high, .slice a n c] 27))
  by_cases k1 : kd = 1
  · subst k1
    go_enter Try.func16, Try.ntmps16
    go_wp2
    go_ret
    exact ⟨rfl, fin.out⟩
  · skip
    go_enter Try.func16, Try.ntmps16
    go_wp2
    go_ret
    exact ⟨rfl, fin.out⟩

set_option maxHeartbeats 4000000 in
set_option maxRecDepth 100000 in
theorem rwrites_any (kd key high : Int) (a : Option Addr) (n c : Nat) (w : World) :
    Calls Try.prog 17 #[.agg #[.int .i64 kd, .int .u64 key, .int .u64 high, .slice a n c]] w fun e w' => e = .returned (.bool (wrB kd)) ∧ Below w.heap.size w w' := by
  have fin := hide ((Below.refl w.heap.size w).alloc (Nat.le_refl _) (.cells #[.int .i64 kd, .int .u64 key, .int .u64 high, .slice a n c] 27))
  by_cases k1 : kd = 1
  · subst k1
    go_enter Try.func17, Try.ntmps17
    go_wp2
    go_ret
    exact ⟨rfl, fin.out⟩
  · skip
    go_enter Try.func17, Try.ntmps17
    go_wp2
    go_ret
    exact ⟨rfl, fin.out⟩

end Go.Proofs.Ytfnpapaibgbjpaa
