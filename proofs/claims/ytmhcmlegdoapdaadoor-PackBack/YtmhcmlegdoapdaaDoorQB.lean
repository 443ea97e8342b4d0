/- Package pack: bytes that are put behind others: putHigh, putNumber, putTruth. -/
import Derived.Test.YtmhcmlegdoapdaaDoorQA
import Derived.Laws.BitsAllLaws
namespace Go.Proofs.YtmhcmlegdoapdaaDoor
open Go.RowKit

/-- The n lowest bytes of x, the highest of these first. -/
def hb (x : Int) : Nat → List Int
  | 0 => []
  | n + 1 => x / 256 ^ n % 256 :: hb x n
theorem hb_len (x : Int) : ∀ n, (hb x n).length = n
  | 0 => rfl
  | n + 1 => by simp [hb, hb_len x n]
/-- The bytes put so far, where m are still to come. -/
theorem hb_take (x : Int) : ∀ (n m : Nat), m < n → (hb x n).take (n - m) = (hb x n).take (n - m - 1) ++ [x / 256 ^ m % 256]
  | 0, m, h => by omega
  | n + 1, m, h => by
    by_cases e : m = n
    · subst e
      rw [show m + 1 - m = 1 from by omega]
      simp [hb]
    · have ih := hb_take x n m (by omega)
      rw [show n + 1 - m = (n - m) + 1 from by omega]
      simp only [hb, List.take_succ_cons, Nat.add_sub_cancel]
      rw [ih, show n - m = (n - m - 1) + 1 from by omega]
      simp

theorem pow_hb (a : Nat) : (2 : Int) ^ (8 * a) = 256 ^ a := by
  rw [Int.pow_mul]; rfl
theorem hb_step (x : Int) (m k : Nat) (h : k < m) : (hb x m).take (k + 1) = (hb x m).take k ++ [x / 2 ^ (8 * (m - 1) - 8 * k) % 256] := by
  have e := hb_take x m (m - 1 - k) (by omega)
  rw [show m - (m - 1 - k) = k + 1 from by omega] at e
  rw [e, Nat.add_sub_cancel, show 8 * (m - 1) - 8 * k = 8 * (m - 1 - k) from by omega, pow_hb]

/-- Row g of w' is that of w with these bytes behind it; nothing else that lay in w has turned. -/
def Put (w w' : World) (base g n cap : Nat) (xs l : List Int) : Prop :=
  w'.ownsRow base 5 1 (.slice (some ⟨g, 0, none⟩) (n + l.length) cap) (n + l.length) (u8s (xs ++ l)) ∧ w.grownBy w' (some g)
theorem Put.trans {w w' w'' : World} {base g n cap : Nat} {xs l m : List Int} (h : Put w w' base g n cap xs l) (k : Put w' w'' base g (n + l.length) cap (xs ++ l) m) : Put w w'' base g n cap xs (l ++ m) := by
  obtain ⟨a, b⟩ := h
  obtain ⟨c, d⟩ := k
  refine ⟨?_, grown_trans b d⟩
  rw [List.length_append, ← Nat.add_assoc, ← List.append_assoc]
  exact c

set_option maxHeartbeats 1000000 in
set_option maxRecDepth 100000 in
theorem putHigh_any (x : Int) (m : Nat) (hm : m ≤ 8) (base g n cap : Nat) (xs : List Int) (w : World)
    (hown : w.ownsRow base 5 1 (.slice (some ⟨g, 0, none⟩) n cap) n (u8s xs)) (hroom : n + m ≤ cap) :
    Calls Tryd.prog 62 #[.slice (some ⟨g, 0, none⟩) n cap, .int .u64 x, .int .i64 (m : Int)] w fun e w' => e = .returned (.slice (some ⟨g, 0, none⟩) (n + m) cap) ∧ Put w w' base g n cap xs (hb x m) := by
  obtain ⟨i0, hi, hz0, hz1, hz2⟩ := info_parts Tryd.infoU8
  go_enter Tryd.func62, Tryd.ntmps62
  go_wp2
  go_loopw [0, 7] (fun v s wr => ∃ k : Nat, k ≤ m ∧ s = .int .i64 (8 * ((m : Int) - 1) - 8 * (k : Int)) ∧ v = .slice (some ⟨g, 0, none⟩) (n + k) cap ∧ wr.ownsRow base 5 1 (.slice (some ⟨g, 0, none⟩) (n + k) cap) (n + k) (u8s (xs ++ (hb x m).take k)) ∧ w.grownBy wr (some g)) (fun _ s _ => (8 + intOf s).toNat)
  case atStart => exact ⟨0, by omega, by simp, rfl, by simpa using hown, ⟨rfl, rfl, rfl, Nat.le_refl _, fun _ _ _ => rfl⟩⟩
  case round =>
    obtain ⟨k, hk, rfl, rfl, hown', hg⟩ := hrel
    by_cases hlt : k < m
    · have HT := hide (hb_step x m k hlt)
      have hwr := (hown'.lt g rfl).2
      go_wp2_with (at_builtin; refine wpList_append_fits _ rfl (.tmp 15) (.tmp 20) 25 rfl base 5 i0 1 Tryd.underlying25 hi hz1 g (n + k) cap _ rfl (hown'.alloc _) ⟨wr.heap.size, 0, none⟩ 1 1 [.int .u8 (x / 2 ^ (8 * (m - 1) - 8 * k) % 256)] rfl rfl (cell_one_new _ _ _) (by intro u hu; simp at hu; subst hu; rfl) (by omega) ?_; intro w4 hown4 hgrow4)
      have HO := hide hown4
      have HG := hide (grown_trans hg (grown_trans (World.grownBy_alloc wr _ (some g)) hgrow4))
      clear hown4 hgrow4 hg hown'
      go_wp2
      go_roundw
      case rel => exact ⟨k + 1, by omega, by go_num, rfl, by rw [HT.out, ← List.append_assoc, u8s_app]; exact HO.out, HG.out⟩
      case measure => simp [intOf]; omega
    · obtain rfl : k = m := by omega
      have HO := hide hown'
      have HG := hide hg
      clear hg hown'
      go_wp2
      go_ret
      refine ⟨rfl, ?_, HG.out⟩
      have h := HO.out
      rw [hb_len]
      rwa [List.take_of_length_le (by rw [hb_len]; omega)] at h

/-- A number's bytes. -/
def nb (n : Nat) : List Int := if n < 128 then [(n : Int)] else ((n % 128 + 128 : Nat) : Int) :: nb (n / 128)
termination_by n
decreasing_by omega
theorem nb_small {n : Nat} (h : n < 128) : nb n = [(n : Int)] := by rw [nb, if_pos h]
theorem nb_big {n : Nat} (h : ¬ n < 128) : nb n = ((n % 128 + 128 : Nat) : Int) :: nb (n / 128) := by rw [nb, if_neg h]

theorem or128 (n : Nat) : bits .or .u8 ((n : Int) % 256) 128 = ((n % 128 + 128 : Nat) : Int) := by
  have e : (n : Int) % 256 = ((n % 256 : Nat) : Int) := by omega
  rw [e, show (128 : Int) = ((128 : Nat) : Int) from rfl, u8_or_nat (n % 256) 128 (by omega) (by omega)]
  have : n % 256 ||| 128 = n % 128 + 128 := by
    have h : ∀ m, m < 256 → m ||| 128 = m % 128 + 128 := by decide +kernel
    rw [h (n % 256) (by omega)]; omega
  rw [this]

set_option maxHeartbeats 1000000 in
set_option maxRecDepth 100000 in
theorem putNumber_any (x : Nat) (hx : x < 18446744073709551616) (base g n cap : Nat) (xs : List Int) (w : World)
    (hown : w.ownsRow base 5 1 (.slice (some ⟨g, 0, none⟩) n cap) n (u8s xs)) (hroom : n + (nb x).length ≤ cap) :
    Calls Tryd.prog 39 #[.slice (some ⟨g, 0, none⟩) n cap, .int .u64 (x : Int)] w fun e w' => e = .returned (.slice (some ⟨g, 0, none⟩) (n + (nb x).length) cap) ∧ Put w w' base g n cap xs (nb x) := by
  obtain ⟨i0, hi, hz0, hz1, hz2⟩ := info_parts Tryd.infoU8
  go_enter Tryd.func39, Tryd.ntmps39
  go_wp2
  go_loopw [0, 1] (fun v s wr => ∃ (y : Nat) (l : List Int), y ≤ x ∧ s = .int .u64 (y : Int) ∧ l ++ nb y = nb x ∧ v = .slice (some ⟨g, 0, none⟩) (n + l.length) cap ∧ wr.ownsRow base 5 1 (.slice (some ⟨g, 0, none⟩) (n + l.length) cap) (n + l.length) (u8s (xs ++ l)) ∧ w.grownBy wr (some g)) (fun _ s _ => (intOf s).toNat)
  case atStart => exact ⟨x, [], by omega, rfl, rfl, rfl, by simpa using hown, ⟨rfl, rfl, rfl, Nat.le_refl _, fun _ _ _ => rfl⟩⟩
  case round =>
    obtain ⟨y, l, hy, rfl, hl, rfl, hown', hg⟩ := hrel
    have hwr := (hown'.lt g rfl).2
    by_cases hlt : y < 128
    · have hnb := nb_small hlt
      have hll := congrArg List.length hl
      rw [List.length_append, hnb, List.length_singleton] at hll
      have HL := hide hl
      have HNB := hide hnb
      clear hl hnb
      go_wp2_with (at_builtin; refine wpList_append_fits _ rfl (.tmp 15) (.tmp 18) 25 rfl base 5 i0 1 Tryd.underlying25 hi hz1 g (n + l.length) cap _ rfl (hown'.alloc _) ⟨wr.heap.size, 0, none⟩ 1 1 [.int .u8 (y : Int)] rfl rfl (cell_one_new _ _ _) (by intro u hu; simp at hu; subst hu; rfl) (by omega) ?_; intro w4 hown4 hgrow4)
      have HO := hide hown4
      have HG := hide (grown_trans hg (grown_trans (World.grownBy_alloc wr _ (some g)) hgrow4))
      clear hown4 hgrow4 hg hown'
      go_wp2
      go_ret
      refine ⟨?_, ?_, HG.out⟩
      · rw [← hll]; rfl
      · rw [← HL.out, HNB.out, List.length_append, ← Nat.add_assoc, ← List.append_assoc, u8s_app]; exact HO.out
    · have hnb := nb_big hlt
      have hll := congrArg List.length hl
      rw [List.length_append, hnb, List.length_cons] at hll
      have HL := hide hl
      have HNB := hide hnb
      have hor := or128 y
      clear hl hnb
      go_wp2_with (at_builtin; refine wpList_append_fits _ rfl (.tmp 7) (.tmp 11) 25 rfl base 5 i0 1 Tryd.underlying25 hi hz1 g (n + l.length) cap _ rfl (hown'.alloc _) ⟨wr.heap.size, 0, none⟩ 1 1 [.int .u8 ((y % 128 + 128 : Nat) : Int)] rfl rfl (cell_one_new _ _ _) (by intro u hu; simp at hu; subst hu; rfl) (by omega) ?_; intro w4 hown4 hgrow4)
      have HO := hide hown4
      have HG := hide (grown_trans hg (grown_trans (World.grownBy_alloc wr _ (some g)) hgrow4))
      clear hown4 hgrow4 hg hown' hor
      go_wp2
      go_roundw
      case rel => exact ⟨y / 128, l ++ [((y % 128 + 128 : Nat) : Int)], by omega, by simp, by rw [← HL.out, HNB.out, List.append_assoc]; rfl, by rw [List.length_append]; rfl, by rw [List.length_append, ← List.append_assoc, u8s_app]; exact HO.out, HG.out⟩
      case measure => simp [intOf]; omega

end Go.Proofs.YtmhcmlegdoapdaaDoor
