/- LockFull: the law walked. -/
import Derived.Test.YtapknlmplhjfeaaLH
namespace Go.Proofs.Ytapknlmplhjfeaa
open Go.RowKit Go.Maps

set_option maxHeartbeats 8000000 in
set_option maxRecDepth 100000 in
theorem lockFull_out (n : Int) (hn : n < 1 ∨ 1024 < n) (w : World) : Calls Try.prog 4 #[.int .i64 n] w fun e w' => e = .returned (.bool true) ∧ Below w.heap.size w w' := by
  by_cases h1 : n < 1
  · go_enter Try.func4, Try.ntmps4
    go_wp2_with fail
    refine (alive_any w).mono ?_; rintro e w1 ⟨rfl, hb⟩
    replace hb := hide hb
    go_wp2
    go_ret
    exact ⟨rfl, hb.out⟩
  · have h2 : 1024 < n := by omega
    go_enter Try.func4, Try.ntmps4
    go_wp2_with fail
    refine (alive_any w).mono ?_; rintro e w1 ⟨rfl, hb⟩
    replace hb := hide hb
    go_wp2
    go_ret
    exact ⟨rfl, hb.out⟩

/-- The row behind n questions. -/
def fullRow (n : Nat) : List Ow := (List.range (min n 65)).map fun i : Nat => ((i : Int), (1 : Int))
theorem fullRow_len (n : Nat) : (fullRow n).length = min n 65 := by simp [fullRow]
theorem fullRow_not (n j : Nat) (hj : n ≤ j) : plc ((j : Int), 1) (fullRow n) = -1 := by
  refine plc_no fun q hq => ?_
  rw [fullRow_len] at hq
  simp [fullRow]
  omega
theorem fullRow_succ (n : Nat) (h : n ≤ 64) : fullRow n ++ [((n : Int), 1)] = fullRow (n + 1) := by
  unfold fullRow
  rw [Nat.min_eq_left (by omega), Nat.min_eq_left (by omega), List.range_succ, List.map_append]
  rfl
theorem fullRow_full (n : Nat) (h : 65 ≤ n) : fullRow (n + 1) = fullRow n := by
  unfold fullRow
  rw [Nat.min_eq_right (by omega), Nat.min_eq_right h]
theorem okO_full (j : Nat) (h : j < 1024) : okO (j : Int) 1 = true := by
  unfold okO
  simp
  omega

set_option maxHeartbeats 8000000 in
set_option maxRecDepth 100000 in
theorem lockFull_in (n : Nat) (h1 : 1 ≤ n) (h2 : n ≤ 1024) (w : World) : Calls Try.prog 4 #[.int .i64 (n : Int)] w fun e w' => e = .returned (.bool true) ∧ Below w.heap.size w w' := by
  have hpn := ptr_eq_nil
  go_enter Try.func4, Try.ntmps4
  go_wp2_with fail
  refine (new_any w).mono ?_; rintro e w1 ⟨b, rfl, hb, hN, hbl⟩
  replace hN := hide hN
  replace hbl := hide hbl
  go_wp2
  go_loopw [4] (fun i wr => ∃ j : Nat, j ≤ n ∧ i = .int .i64 (j : Int) ∧ Hid (∃ v, Lx w1 wr b (.slice none 0 0) v (fullRow j))) (fun i _ => n - (intOf i).toNat)
  case atStart => exact ⟨0, by omega, rfl, _, hN.out.lx (Below.refl _ _)⟩
  case round =>
    obtain ⟨j, hj, rfl, hX⟩ := hrel
    obtain ⟨v, X⟩ := hX.out
    replace X := hide X
    clear hX
    by_cases hlt : j < n
    · by_cases hm : j ≤ 64
      · go_wp2_with fail
        refine (ask_new b _ _ _ X.out.ls (j : Int) 1 (okO_full j (by omega)) (fullRow_not j j (Nat.le_refl _)) (by rw [fullRow_len]; omega)).mono ?_
        rintro e w2 ⟨rfl, v2, hx⟩
        have X2 := hide (X.out.trans hx)
        rw [fullRow_succ j hm] at X2
        rw [fullRow_len, Nat.min_eq_left (by omega)]
        clear hx X
        by_cases h0 : j = 0
        · subst h0
          go_wp2
          exact ⟨⟨1, by omega, by simp, v2, X2.out⟩, by simp [intOf]; omega⟩
        · have e0 : decide (j = 0) = false := by simp [h0]
          rw [e0]
          have e1 : ((j : Int) == 0) = false := by simp [h0]
          clear e0
          go_wp2
          exact ⟨⟨j + 1, by omega, by simp, v2, X2.out⟩, by simp [intOf]; omega⟩
      · go_wp2_with fail
        refine (ask_many b _ _ _ X.out.ls (j : Int) 1 (okO_full j (by omega)) (fullRow_not j j (Nat.le_refl _)) (by rw [fullRow_len]; omega)).mono ?_
        rintro e w2 ⟨rfl, hb2⟩
        have X2 := hide (X.out.bel hb2)
        rw [← fullRow_full j (by omega)] at X2
        clear hb2 X
        have e1 : ((j : Int) == 0) = false := by simp; omega
        go_wp2
        exact ⟨⟨j + 1, by omega, by simp, v, X2.out⟩, by simp [intOf]; omega⟩
    · obtain rfl : j = n := by omega
      go_wp2_with fail
      refine (waits_any b _ _ _ X.out.ls).mono ?_
      rintro e w2 ⟨x, rfl, hx, -, hb2⟩
      obtain ⟨xa, xc, rfl, -, -⟩ := hx.shape
      have X2 := hide (X.out.bel hb2)
      clear hx hb2 X
      rw [List.length_tail, fullRow_len]
      obtain ⟨m, rfl⟩ : ∃ m : Nat, j = m + 1 := ⟨j - 1, by omega⟩
      by_cases hc : m ≤ 64
      · rw [show min (m + 1) 65 - 1 = m by omega]
        have hmi : min (m : Int) 64 = m := by omega
        go_wp2_with fail
        refine (alive_any _).mono ?_; rintro e w3 ⟨rfl, hb3⟩
        have X3 := hide (X2.out.bel hb3)
        clear hb3 X2
        go_wp2
        go_ret
        refine ⟨rfl, hbl.out.trans (X3.out.kp.to_below hbl.out.size ?_)⟩
        intro q hq
        simp at hq
        omega
      · rw [show min (m + 1) 65 - 1 = 64 by omega]
        have hmi : min (m : Int) 64 = 64 := by omega
        go_wp2_with fail
        refine (alive_any _).mono ?_; rintro e w3 ⟨rfl, hb3⟩
        have X3 := hide (X2.out.bel hb3)
        clear hb3 X2
        go_wp2
        go_ret
        refine ⟨rfl, hbl.out.trans (X3.out.kp.to_below hbl.out.size ?_)⟩
        intro q hq
        simp at hq
        omega

end Go.Proofs.Ytapknlmplhjfeaa
