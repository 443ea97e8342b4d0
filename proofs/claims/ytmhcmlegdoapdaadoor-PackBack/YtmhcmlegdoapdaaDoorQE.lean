/- Package pack: how many bytes a number has. -/
import Derived.Test.YtmhcmlegdoapdaaDoorQB
import Derived.Test.YtmhcmlegdoapdaaDoorQL
import Derived.Shelf.Strconv.Itoa0
import Derived.Laws.BitsAllLaws
namespace Go.Proofs.YtmhcmlegdoapdaaDoor
open Go.Shelf Go.RowKit

theorem bl_pow : ∀ (f k x : Nat), 2 ^ k ≤ x → x < 2 ^ (k + 1) → k < f → Lib.bitLenAux f x = k + 1
  | 0, k, x, _, _, h => by omega
  | f + 1, k, x, h1, h2, h => by
    have hx : ¬ x = 0 := by have := Nat.two_pow_pos k; omega
    rw [Lib.bitLenAux, if_neg hx]
    cases k with
    | zero =>
      have : x = 1 := by omega
      subst this
      rw [show 1 / 2 = 0 from rfl]
      cases f with
      | zero => rfl
      | succ f => rw [Lib.bitLenAux, if_pos rfl]
    | succ k =>
      rw [Nat.pow_succ] at h1 h2
      rw [bl_pow f k (x / 2) (by omega) (by omega) (by omega)]; omega
theorem nb_pow (k : Nat) : ∀ n, 2 ^ k ≤ n → n < 2 ^ (k + 1) → (nb n).length = k / 7 + 1 := by
  induction k using Nat.strongRecOn with
  | ind k ih =>
    intro n h1 h2
    by_cases h : n < 128
    · have : k < 7 := by
        rcases Nat.lt_or_ge k 7 with h' | h'
        · exact h'
        · have := Nat.pow_le_pow_right (n := 2) (by omega) h'; omega
      rw [nb_small h, List.length_singleton]; omega
    · have hk : 7 ≤ k := by
        rcases Nat.lt_or_ge k 7 with h' | h'
        · have := Nat.pow_le_pow_right (n := 2) (by omega) (show k + 1 ≤ 7 by omega); omega
        · exact h'
      have e1 : 2 ^ k = 2 ^ (k - 7) * 128 := by rw [show (128 : Nat) = 2 ^ 7 from rfl, ← Nat.pow_add]; congr 1; omega
      have e2 : 2 ^ (k + 1) = 2 ^ (k - 7 + 1) * 128 := by rw [show (128 : Nat) = 2 ^ 7 from rfl, ← Nat.pow_add]; congr 1; omega
      rw [nb_big h, List.length_cons, ih (k - 7) (by omega) (n / 128) (by omega) (by omega)]; omega
theorem size_nb (n : Nat) (hn : n < 18446744073709551616) : (Lib.bitLen (n ||| 1) + 6) / 7 = (nb n).length := by
  rcases Nat.eq_zero_or_pos n with h | h
  · subst h
    rw [nb_small (by omega)]
    rw [show (0 ||| 1 : Nat) = 1 from rfl, Lib.bitLen, bl_pow 64 0 1 (by omega) (by omega) (by omega)]; rfl
  · have a := Nat.log2_self_le (n := n) (by omega)
    have b := Nat.lt_log2_self (n := n)
    generalize Nat.log2 n = k at a b
    have hk : k < 64 := by
      rcases Nat.lt_or_ge k 64 with h' | h'
      · exact h'
      · have := Nat.pow_le_pow_right (n := 2) (by omega) h'; omega
    have c : n ||| 1 < 2 ^ (k + 1) := Nat.or_lt_two_pow b (by have := Nat.pow_le_pow_right (n := 2) (by omega) (show 1 ≤ k + 1 by omega); omega)
    have d : n ≤ n ||| 1 := Nat.left_le_or
    rw [Lib.bitLen, bl_pow 64 k _ (by omega) c hk, nb_pow k n a b]; omega

set_option maxHeartbeats 400000 in
set_option maxRecDepth 100000 in
theorem numberSize_any (n : Nat) (hn : n < 18446744073709551616) (w : World) : Calls Tryd.prog 48 #[.int .u64 (n : Int)] w fun e w' => e = .returned (.int .i64 ((nb n).length : Int)) ∧ w' = w := by
  have hor : bits .or .u64 (n : Int) 1 = ((n ||| 1 : Nat) : Int) := by
    rw [show (1 : Int) = ((1 : Nat) : Int) from rfl, u64_or_nat n 1 hn (by omega)]
  have hlt : n ||| 1 < 2 ^ 64 := Nat.or_lt_two_pow hn (by omega)
  have hsz := size_nb n hn
  have hL := Any.bits_Len64 Tryd.l129 ((n ||| 1 : Nat) : Int) w (by omega) (by omega)
  rw [Int.toNat_natCast] at hL
  change Calls Tryd.prog 64 _ _ _ at hL
  have hb : Lib.bitLen (n ||| 1) ≤ 64 := by
    rcases Nat.eq_zero_or_pos (n ||| 1) with h | h
    · rw [h]; decide
    · have a := Nat.log2_self_le (n := n ||| 1) (by omega)
      have b := Nat.lt_log2_self (n := n ||| 1)
      generalize Nat.log2 (n ||| 1) = k at a b
      have hk : k < 64 := by
        rcases Nat.lt_or_ge k 64 with h' | h'
        · exact h'
        · have := Nat.pow_le_pow_right (n := 2) (by omega) h'; omega
      rw [Lib.bitLen, bl_pow 64 k _ a b hk]; omega
  rw [← hsz]
  generalize Lib.bitLen (n ||| 1) = K at *
  generalize (n ||| 1 : Nat) = N at *
  clear hsz hlt
  go_enter Tryd.func48, Tryd.ntmps48
  go_wp2_with fail
  refine hL.mono ?_; rintro e w1 ⟨rfl, rfl⟩
  go_wp2
  go_ret
  exact ⟨by simp, rfl⟩

end Go.Proofs.YtmhcmlegdoapdaaDoor
