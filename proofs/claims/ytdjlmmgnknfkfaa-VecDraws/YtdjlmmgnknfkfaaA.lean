/- Walks of the small functions of package vec and of the document's answer: what a call tells, and that it turns nothing that was there. -/
import Derived.Test.YtdjlmmgnknfkfaaRows
import Derived.Test.YtdjlmmgnknfkfaaM
import Derived.WalkKit
import Derived.WalkSpells
import Derived.WalkLawsBesides
import Derived.BigQuiet
import Derived.Deep.QuietTactic
import Derived.Deep.RegionHeld3
import Derived.Deep.DrawnRows
namespace Go.Proofs.Ytdjlmmgnknfkfaa
open Go.RowKit

theorem ret_int {k : IntKind} {a b : Int} (h : a = b) : Ending.returned (.int k a) = .returned (.int k b) := by rw [h]
theorem wrap_u64 {x : Int} (h0 : 0 ≤ x) (h1 : x < 18446744073709551616) : IntKind.u64.wrap x = x := by
  simp only [IntKind.wrap]; exact Int.emod_eq_of_lt h0 h1

theorem pow_step (k : Nat) (h : k < 63) : IntKind.u64.wrap (2 ^ k * 2) = ((2 ^ (k + 1) : Nat) : Int) := by
  have hp : 2 ^ (k + 1) ≤ 2 ^ 63 := Nat.pow_le_pow_right (by omega) (by omega)
  have e : ((2 : Int) ^ k * 2) = ((2 ^ (k + 1) : Nat) : Int) := by rw [Nat.pow_succ]; simp
  rw [e]
  have hq : 0 < 2 ^ (k + 1) := Nat.two_pow_pos _
  generalize 2 ^ (k + 1) = y at *
  exact wrap_u64 (by omega) (by omega)

set_option maxHeartbeats 400000 in
theorem power_any (n : Int) (h0 : 0 ≤ n) (h1 : n ≤ 63) (w : World) :
    Calls Try.prog 45 #[.int .i64 n] w fun e w' => e = .returned (.int .u64 (2 ^ n.toNat : Nat)) ∧ w' = w := by
  obtain ⟨m, rfl⟩ := Int.eq_ofNat_of_zero_le h0
  rw [Int.toNat_natCast]
  have hm : m ≤ 63 := by omega
  clear h0 h1
  go_enter Try.func45, Try.ntmps45
  go_wp2
  go_loop [0, 3] (fun i x => ∃ k : Nat, k ≤ m ∧ i = .int .i64 ((m - k : Nat) : Int) ∧ x = .int .u64 ((2 ^ k : Nat) : Int)) (fun i _ => (intOf i).toNat)
  case atStart => exact ⟨0, by omega, by simp, rfl⟩
  case round =>
    obtain ⟨k, hk, rfl, rfl⟩ := hrel
    by_cases hlt : k < m
    · have H : Hid (IntKind.u64.wrap (2 ^ k * 2) = ((2 ^ (k + 1) : Nat) : Int)) := pow_step k (by omega)
      go_wp2
      refine ⟨⟨k + 1, by omega, ?_, ?_⟩, ?_⟩
      · rw [show ((m - k : Nat) : Int) - 1 = ((m - (k + 1) : Nat) : Int) from by omega]
      · rw [H.out]
      · simp [intOf]; omega
    · go_wp2
      go_ret
      have e : k = m := by omega
      rw [e]; simp

theorem right_y (n b : Int) (h : rt n b = true) (hb : 0 ≤ b) : (decide (n < 0) = false) ∧ (decide (32 < n) = false) ∧ (b / 2 ^ n.toNat != 0) = false := by
  have h := of_decide_eq_true h
  refine ⟨by simp; omega, by simp; omega, ?_⟩
  rw [Int.ediv_eq_zero_of_lt hb h.2.2]; rfl
theorem right_n (n b : Int) (h : rt n b = false) (h0 : 0 ≤ n) (h1 : n ≤ 32) : (b / 2 ^ n.toNat != 0) = true := by
  have h := of_decide_eq_false h
  have hp : (0 : Int) < 2 ^ n.toNat := Int.pow_pos (by omega)
  have h2 : (2 : Int) ^ n.toNat ≤ b := by omega
  rw [bne_iff_ne]
  intro e
  have h3 := Int.lt_mul_ediv_self_add (x := b) hp
  rw [e] at h3
  omega

set_option maxHeartbeats 400000 in
theorem vright_yes (n b : Int) (h : rt n b = true) (hb : 0 ≤ b) (w : World) :
    Calls Try.prog 17 #[(.agg #[.int .i64 (n), .int .u64 (b)])] w fun e w' => e = .returned (.int .i64 0) ∧ Below w.heap.size w w' := by
  obtain ⟨g1, g2, g3⟩ := right_y n b h hb
  have g4 : 0 ≤ n := by simpa using g1
  have g5 : n ≤ 32 := by simpa using g2
  clear g1 g2 h
  go_enter Try.func17, Try.ntmps17
  go_wp2
  go_ret
  exact ⟨rfl, (Below.refl _ _).alloc (Nat.le_refl _) _⟩

set_option maxHeartbeats 400000 in
theorem vright_no (n b : Int) (h : rt n b = false) (w : World) :
    Calls Try.prog 17 #[(.agg #[.int .i64 (n), .int .u64 (b)])] w fun e w' => e = .returned (.int .i64 10) ∧ Below w.heap.size w w' := by
  by_cases g4 : 0 ≤ n
  · by_cases g5 : n ≤ 32
    · have g3 := right_n n b h g4 g5
      clear h
      go_enter Try.func17, Try.ntmps17
      go_wp2
      go_ret
      exact ⟨rfl, (Below.refl _ _).alloc (Nat.le_refl _) _⟩
    · have g6 : 32 < n := by omega
      clear h
      go_enter Try.func17, Try.ntmps17
      go_wp2
      go_ret
      exact ⟨rfl, (Below.refl _ _).alloc (Nat.le_refl _) _⟩
  · have g6 : n < 0 := by omega
    clear h
    go_enter Try.func17, Try.ntmps17
    go_wp2
    go_ret
    exact ⟨rfl, (Below.refl _ _).alloc (Nat.le_refl _) _⟩

set_option maxHeartbeats 400000 in
theorem rright_in (n b : Int) (h0 : 0 ≤ n) (h1 : n ≤ 32) (w : World) :
    Calls Try.prog 18 #[(.agg #[.int .i64 (n), .int .u64 (b)])] w fun e w' => e = .returned (.bool (decide (b < 2 ^ n.toNat))) ∧ Below w.heap.size w w' := by
  go_enter Try.func18, Try.ntmps18
  go_wp2
  go_quiet ((go_at_call 45; exact Calls.quiet_of_same (power_any _ (by omega) (by omega) _)))
  go_wp2
  go_ret
  exact ⟨rfl, below_drewN ((Below.refl _ _).alloc (Nat.le_refl _) _) _⟩

set_option maxHeartbeats 400000 in
theorem rright_out (n b : Int) (h : n < 0 ∨ 32 < n) (w : World) :
    Calls Try.prog 18 #[(.agg #[.int .i64 (n), .int .u64 (b)])] w fun e w' => e = .returned (.bool false) ∧ Below w.heap.size w w' := by
  rcases h with h | h
  · have h1 : decide (0 ≤ n) = false := by simp; omega
    go_enter Try.func18, Try.ntmps18
    go_wp2
    go_quiet (fail)
    go_wp2
    go_ret
    exact ⟨rfl, below_drewN ((Below.refl _ _).alloc (Nat.le_refl _) _) _⟩
  · have h0 : 0 ≤ n := by omega
    have h1 : decide (n ≤ 32) = false := by simp; omega
    go_enter Try.func18, Try.ntmps18
    go_wp2
    go_quiet (fail)
    go_wp2
    go_ret
    exact ⟨rfl, below_drewN ((Below.refl _ _).alloc (Nat.le_refl _) _) _⟩

theorem rright_any (n b : Int) (w : World) :
    Calls Try.prog 18 #[(.agg #[.int .i64 (n), .int .u64 (b)])] w fun e w' => e = .returned (.bool (rt n b)) ∧ Below w.heap.size w w' := by
  by_cases h : n < 0 ∨ 32 < n
  · have e : rt n b = false := by unfold rt; simp; omega
    rw [e]; exact rright_out n b h w
  · have e : rt n b = decide (b < 2 ^ n.toNat) := by unfold rt; rw [decide_eq_decide]; constructor <;> intro h' <;> first | exact h'.2.2 | exact ⟨by omega, by omega, h'⟩
    rw [e]; exact rright_in n b (by omega) (by omega) w

theorem bt_int (n b i : Int) (h0 : 0 ≤ i) (h1 : i < n) (hb : 0 ≤ b) (hb2 : b < 18446744073709551616) : bits BinOp.and IntKind.u64 (b / 2 ^ (n - 1 - i).toNat) 1 = (bt n.toNat b.toNat i.toNat : Nat) := by
  obtain ⟨b, rfl⟩ := Int.eq_ofNat_of_zero_le hb
  have e : ((b : Int) / 2 ^ (n - 1 - i).toNat) = ((b / 2 ^ (n - 1 - i).toNat : Nat) : Int) := by simp
  have h3 : b / 2 ^ (n - 1 - i).toNat ≤ b := Nat.div_le_self _ _
  rw [e]
  generalize hq : b / 2 ^ (n - 1 - i).toNat = q at *
  rw [and_one_u64 _ (by omega) (by omega), bt, Int.toNat_natCast]
  have e2 : (n - 1 - i).toNat = n.toNat - 1 - i.toNat := by omega
  rw [← e2, hq]; omega

set_option maxHeartbeats 400000 in
theorem bitAt_any (n b i : Int) (h0 : 0 ≤ i) (h1 : i < n) (h2 : n ≤ 32) (hb : 0 ≤ b) (hb2 : b < 18446744073709551616) (w : World) :
    Calls Try.prog 40 #[(.agg #[.int .i64 (n), .int .u64 (b)]), .int .i64 i] w fun e w' => e = .returned (.int .u64 (bt n.toNat b.toNat i.toNat : Nat)) ∧ Below w.heap.size w w' := by
  have H : Hid (bits BinOp.and IntKind.u64 (b / 2 ^ (n - 1 - i).toNat) 1 = (bt n.toNat b.toNat i.toNat : Nat)) := bt_int n b i h0 h1 hb hb2
  clear hb2
  go_enter Try.func40, Try.ntmps40
  go_wp2
  go_ret
  exact ⟨ret_int H.out, (Below.refl _ _).alloc (Nat.le_refl _) _⟩

theorem pre_int (n b k : Int) (h0 : 0 ≤ k) (h1 : k ≤ n) (hb : 0 ≤ b) : b / 2 ^ (n - k).toNat = (pre n.toNat b.toNat k.toNat : Nat) := by
  obtain ⟨b, rfl⟩ := Int.eq_ofNat_of_zero_le hb
  have e2 : (n - k).toNat = n.toNat - k.toNat := by omega
  rw [e2, pre, Int.toNat_natCast]; simp

theorem ret_vec {k x y : Int} (h : x = y) : Ending.returned (.agg #[.int .i64 (k), .int .u64 (x)]) = .returned (.agg #[.int .i64 (k), .int .u64 (y)]) := by rw [h]
theorem ret_vec2 {j k x y : Int} (h' : j = k) (h : x = y) : Ending.returned (.agg #[.int .i64 (j), .int .u64 (x)]) = .returned (.agg #[.int .i64 (k), .int .u64 (y)]) := by rw [h, h']

set_option maxHeartbeats 400000 in
theorem first_any (n b k : Int) (h0 : 0 ≤ k) (h1 : k ≤ n) (h2 : n ≤ 32) (hb : 0 ≤ b) (w : World) :
    Calls Try.prog 43 #[(.agg #[.int .i64 (n), .int .u64 (b)]), .int .i64 k] w fun e w' => e = .returned (.agg #[.int .i64 (k), .int .u64 ((pre n.toNat b.toNat k.toNat : Nat))]) ∧ Below w.heap.size w w' := by
  have H : Hid (b / 2 ^ (n - k).toNat = (pre n.toNat b.toNat k.toNat : Nat)) := pre_int n b k h0 h1 hb
  go_enter Try.func43, Try.ntmps43
  go_wp2
  exact bodyPost_ret (v := (.agg #[.int .i64 (k), .int .u64 (b / 2 ^ (n - k).toNat)])) (by simp [results, Try.results43, go_sem]) rfl ⟨ret_vec H.out, ((Below.refl _ _).alloc (Nat.le_refl _) _).alloc (by simp) _⟩

theorem jn_int (n b m c : Int) (h0 : 0 ≤ n) (h1 : 0 ≤ m) (h2 : n + m ≤ 32) (hb : 0 ≤ b) (hb2 : b < 2 ^ n.toNat) (hc : 0 ≤ c) (hc2 : c < 2 ^ m.toNat) :
    bits BinOp.or IntKind.u64 (IntKind.u64.wrap (b * 2 ^ m.toNat)) c = (jn b.toNat m.toNat c.toNat : Nat) := by
  obtain ⟨n, rfl⟩ := Int.eq_ofNat_of_zero_le h0
  obtain ⟨m, rfl⟩ := Int.eq_ofNat_of_zero_le h1
  obtain ⟨b, rfl⟩ := Int.eq_ofNat_of_zero_le hb
  obtain ⟨c, rfl⟩ := Int.eq_ofNat_of_zero_le hc
  simp only [Int.toNat_natCast] at *
  have k1 : b < 2 ^ n := by exact_mod_cast hb2
  have k2 : c < 2 ^ m := by exact_mod_cast hc2
  have k3 := jn_lt n b m c k1 k2
  have k4 := p32 (n + m) (by omega)
  have e : ((b : Int) * 2 ^ m) = ((b * 2 ^ m : Nat) : Int) := by simp
  unfold jn at *
  rw [e, wrap_u64 (by omega) (by omega), bits_or_u64_nat _ _ (by omega) (by omega), shl_or _ _ _ k2]

set_option maxHeartbeats 400000 in
theorem behind_any (n b m c : Int) (h0 : 0 ≤ n) (h1 : 0 ≤ m) (h2 : n + m ≤ 32) (hb : 0 ≤ b) (hb2 : b < 2 ^ n.toNat) (hc : 0 ≤ c) (hc2 : c < 2 ^ m.toNat) (w : World) :
    Calls Try.prog 46 #[(.agg #[.int .i64 (n), .int .u64 (b)]), (.agg #[.int .i64 (m), .int .u64 (c)])] w fun e w' => e = .returned (.agg #[.int .i64 (n + m), .int .u64 ((jn b.toNat m.toNat c.toNat : Nat))]) ∧ Below w.heap.size w w' := by
  have H : Hid (bits BinOp.or IntKind.u64 (IntKind.u64.wrap (b * 2 ^ m.toNat)) c = (jn b.toNat m.toNat c.toNat : Nat)) := jn_int n b m c h0 h1 h2 hb hb2 hc hc2
  clear hb2 hc2
  go_enter Try.func46, Try.ntmps46
  go_wp2
  go_region
  go_wp2
  exact bodyPost_ret (v := (.agg #[.int .i64 (n + m), .int .u64 (bits BinOp.or IntKind.u64 (IntKind.u64.wrap (b * 2 ^ m.toNat)) c)])) (by simp [results, Try.results46, go_sem]) rfl ⟨ret_vec H.out, ((((Below.refl _ _).alloc (Nat.le_refl _) _).alloc (by simp) _).alloc (by simp; omega) _).drew⟩

end Go.Proofs.Ytdjlmmgnknfkfaa
