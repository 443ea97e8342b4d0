/- Keys' bytes stand in the order of the keys; the document's IsKey. -/
import Derived.Test.YtcjkgeanofggdaaDoorQC
namespace Go.Proofs.YtcjkgeanofggdaaDoor
open Go.RowKit

/-- A row of bytes as a number. -/
def val : List UInt8 → Nat
  | [] => 0
  | c :: l => c.toNat * 256 ^ l.length + val l
theorem val_lt : ∀ l : List UInt8, val l < 256 ^ l.length
  | [] => by simp [val]
  | c :: l => by
    have h := val_lt l
    have hc := c.toNat_lt
    simp only [val, List.length_cons, Nat.pow_succ]
    have : c.toNat * 256 ^ l.length ≤ 255 * 256 ^ l.length := Nat.mul_le_mul_right _ (by omega)
    omega
theorem less_val : ∀ a b : List UInt8, a.length = b.length → Op.bytesLess a b = decide (val a < val b)
  | [], [], _ => by simp [Op.bytesLess, val]
  | x :: a, y :: b, h => by
    have hl : a.length = b.length := by simpa using h
    have ih := less_val a b hl
    have ha := val_lt a
    have hb := val_lt b
    rw [hl] at ha
    simp only [Op.bytesLess, ih, val, hl]
    rcases Nat.lt_trichotomy x.toNat y.toNat with hx | hx | hx
    · have h1 : x < y := UInt8.lt_iff_toNat_lt.2 hx
      have h2 : x.toNat * 256 ^ b.length + 256 ^ b.length ≤ y.toNat * 256 ^ b.length := by
        rw [← Nat.succ_mul]; exact Nat.mul_le_mul_right _ hx
      have h3 : x.toNat * 256 ^ b.length + val a < y.toNat * 256 ^ b.length + val b := by omega
      simp [h1, h3]
    · have h1 : x = y := UInt8.toNat_inj.1 hx
      subst h1
      simp
    · have h1 : ¬ x < y := fun h => by have := UInt8.lt_iff_toNat_lt.1 h; omega
      have h0 : ¬ x = y := fun h => by rw [h] at hx; omega
      have h2 : y.toNat * 256 ^ b.length + 256 ^ b.length ≤ x.toNat * 256 ^ b.length := by
        rw [← Nat.succ_mul]; exact Nat.mul_le_mul_right _ hx
      have h3 : ¬ x.toNat * 256 ^ b.length + val a < y.toNat * 256 ^ b.length + val b := by omega
      simp [h1, h0, h3]

/-- Ints as bytes. -/
def bys (l : List Int) : List UInt8 := l.map fun x => UInt8.ofNat x.toNat
theorem u8_of (x : Int) (h0 : 0 ≤ x) (h1 : x < 256) : ((UInt8.ofNat x.toNat).toNat : Int) = x := by
  rw [UInt8.toNat_ofNat']; omega
theorem hb_bd (x : Int) : ∀ n, ∀ y ∈ hb x n, 0 ≤ y ∧ y < 256
  | 0, y, h => by cases h
  | n + 1, y, h => by
    rcases List.mem_cons.1 h with rfl | h
    · omega
    · exact hb_bd x n y h
theorem val_hb (x : Int) (h0 : 0 ≤ x) : ∀ n, (val (bys (hb x n)) : Int) = x % 256 ^ n
  | 0 => by simp [hb, bys, val, Int.emod_one]
  | n + 1 => by
    have ih := val_hb x h0 n
    have e : bys (hb x (n + 1)) = UInt8.ofNat (x / 256 ^ n % 256).toNat :: bys (hb x n) := rfl
    have hl : (bys (hb x n)).length = n := by unfold bys; rw [List.length_map, hb_len]
    rw [e]
    simp only [val, hl]
    rw [Int.natCast_add, Int.natCast_mul, ih, u8_of _ (by omega) (by omega)]
    have hp : (0 : Int) < 256 ^ n := Int.pow_pos (by omega)
    have hp1 : (256 : Int) ^ (n + 1) = 256 ^ n * 256 := Int.pow_succ 256 n
    have q1 := Int.emod_add_mul_ediv x (256 ^ n)
    have q2 := Int.emod_add_mul_ediv (x / 256 ^ n) 256
    have h3 : x % (256 ^ n * 256) = x % 256 ^ n + 256 ^ n * (x / 256 ^ n % 256) := by
      have b1 := Int.emod_nonneg x (Int.ne_of_gt hp)
      have b2 := Int.emod_lt_of_pos x hp
      have e2 : x = (x % 256 ^ n + 256 ^ n * (x / 256 ^ n % 256)) + 256 ^ n * 256 * (x / 256 ^ n / 256) := by
        have : 256 ^ n * (x / 256 ^ n % 256) + 256 ^ n * 256 * (x / 256 ^ n / 256) = 256 ^ n * (x / 256 ^ n) := by
          rw [Int.mul_assoc, ← Int.mul_add, q2]
        omega
      have lo : 0 ≤ x % 256 ^ n + 256 ^ n * (x / 256 ^ n % 256) := Int.add_nonneg b1 (Int.mul_nonneg (Int.le_of_lt hp) (by omega))
      have hi : x % 256 ^ n + 256 ^ n * (x / 256 ^ n % 256) < 256 ^ n * 256 := by
        have c : x / 256 ^ n % 256 ≤ 255 := by omega
        have := Int.mul_le_mul_of_nonneg_left c (Int.le_of_lt hp)
        omega
      conv => lhs; rw [e2]
      rw [Int.add_mul_emod_self_left, Int.emod_eq_of_lt lo hi]
    rw [hp1, h3, Int.natCast_pow]
    simp [Int.mul_comm, Int.add_comm]

theorem kyb_ok (r n : Int) (h0 : 1 ≤ r) (h3 : r ≤ 3) : ∀ y ∈ kyb r n, 0 ≤ y ∧ y < 256 := by
  intro y hy
  rcases List.mem_cons.1 hy with rfl | hy
  · omega
  · exact hb_bd n _ y hy
theorem kyb_cells (r n : Int) (h0 : 1 ≤ r) (h3 : r ≤ 3) : kyb r n = (bys (kyb r n)).map fun c => (c.toNat : Int) := by
  unfold bys
  rw [List.map_map]
  conv => lhs; rw [← List.map_id (kyb r n)]
  refine List.map_congr_left fun x hx => ?_
  obtain ⟨a, b⟩ := kyb_ok r n h0 h3 x hx
  simp only [Function.comp, id]
  rw [u8_of x a b]
theorem less_ranks (r n s m : Int) (h0 : 1 ≤ r) (h3 : s ≤ 3) (h : r < s) : Op.bytesLess (bys (kyb r n)) (bys (kyb s m)) = true ∧ Op.bytesLess (bys (kyb s m)) (bys (kyb r n)) = false ∧ (bys (kyb r n) == bys (kyb s m)) = false ∧ (bys (kyb s m) == bys (kyb r n)) = false := by
  have e1 : bys (kyb r n) = UInt8.ofNat r.toNat :: bys (hb n (if r = 2 then 8 else 0)) := rfl
  have e2 : bys (kyb s m) = UInt8.ofNat s.toNat :: bys (hb m (if s = 2 then 8 else 0)) := rfl
  have a := u8_of r (by omega) (by omega)
  have b := u8_of s (by omega) (by omega)
  have l : UInt8.ofNat r.toNat < UInt8.ofNat s.toNat := UInt8.lt_iff_toNat_lt.2 (by omega)
  have l' : ¬ UInt8.ofNat s.toNat < UInt8.ofNat r.toNat := fun h => by have := UInt8.lt_iff_toNat_lt.1 h; omega
  have ne : ¬ UInt8.ofNat r.toNat = UInt8.ofNat s.toNat := fun h => by rw [h] at a; omega
  rw [e1, e2]
  generalize UInt8.ofNat r.toNat = R at *
  generalize UInt8.ofNat s.toNat = S at *
  refine ⟨by simp [Op.bytesLess, l], by simp [Op.bytesLess, l', Ne.symm ne], by simp [ne], by simp [Ne.symm ne]⟩
theorem less_same (n m : Int) (hn0 : 0 ≤ n) (hn : n < 18446744073709551616) (hm0 : 0 ≤ m) (hm : m < 18446744073709551616) : Op.bytesLess (bys (kyb 2 n)) (bys (kyb 2 m)) = decide (n < m) ∧ (bys (kyb 2 n) == bys (kyb 2 m)) = decide (n = m) := by
  have e1 : bys (kyb 2 n) = 2 :: bys (hb n 8) := rfl
  have e2 : bys (kyb 2 m) = 2 :: bys (hb m 8) := rfl
  have l1 : (bys (hb n 8)).length = 8 := by unfold bys; rw [List.length_map, hb_len]
  have l2 : (bys (hb m 8)).length = 8 := by unfold bys; rw [List.length_map, hb_len]
  have v1 := val_hb n hn0 8
  have v2 := val_hb m hm0 8
  rw [Int.emod_eq_of_lt hn0 (by exact hn)] at v1
  rw [Int.emod_eq_of_lt hm0 (by exact hm)] at v2
  rw [e1, e2]
  constructor
  · simp only [Op.bytesLess]
    rw [less_val _ _ (l1.trans l2.symm)]
    simp
    omega
  · by_cases h : n = m
    · subst h; simp
    · have : ¬ bys (hb n 8) = bys (hb m 8) := fun e => by rw [e] at v1; omega
      simp [this, h]
theorem less_end (r n m : Int) (h : r = 1 ∨ r = 3) : Op.bytesLess (bys (kyb r n)) (bys (kyb r m)) = false ∧ (bys (kyb r n) == bys (kyb r m)) = true := by
  rcases h with rfl | rfl <;> exact ⟨rfl, rfl⟩

/-- May a key be? -/
def isK (r n : Int) : Bool := decide (ckE r n = 0)

set_option maxHeartbeats 1000000 in
theorem isKey_any (r n : Int) (w : World) : Calls Tryd.prog 25 #[(.agg #[.int .i64 (r), .int .u64 (n)])] w fun e w' => e = .returned (.bool (isK r n)) ∧ Gr w w' := by
  have HG := hide (show Gr w (w.alloc (.cells #[.int .i64 r, .int .u64 n] 30)) from (Gr.refl w).alloc _)
  rcases (show r = 2 ∨ (r = 1 ∧ n = 0) ∨ (r = 3 ∧ n = 0) ∨ (¬ r = 2 ∧ ¬ n = 0) ∨ (¬ r = 2 ∧ ¬ r = 1 ∧ ¬ r = 3 ∧ n = 0) by omega) with rfl | ⟨rfl, rfl⟩ | ⟨rfl, rfl⟩ | ⟨h1, h2⟩ | ⟨h1, h2, h3, rfl⟩
  · go_enter Tryd.func25, Tryd.ntmps25
    go_wp2
    go_ret
    exact ⟨by unfold isK ckE; simp, HG.out⟩
  · go_enter Tryd.func25, Tryd.ntmps25
    go_wp2
    go_ret
    exact ⟨by unfold isK ckE; simp, HG.out⟩
  · go_enter Tryd.func25, Tryd.ntmps25
    go_wp2
    go_ret
    exact ⟨by unfold isK ckE; simp, HG.out⟩
  · have e1 : (r == 2) = false := by simp [h1]
    have e2 : (n == 0) = false := by simp [h2]
    have e3 : isK r n = false := by unfold isK ckE; rw [if_neg (by omega)]; decide
    rw [e3]
    go_enter Tryd.func25, Tryd.ntmps25
    go_wp2
    go_ret
    exact ⟨rfl, HG.out⟩
  · have e1 : (r == 2) = false := by simp [h1]
    have e2 : (r == 1) = false := by simp [h2]
    have e4 : (r == 3) = false := by simp [h3]
    have e3 : isK r 0 = false := by unfold isK ckE; rw [if_neg (by omega)]; decide
    rw [e3]
    go_enter Tryd.func25, Tryd.ntmps25
    go_wp2
    go_ret
    exact ⟨rfl, HG.out⟩

end Go.Proofs.YtcjkgeanofggdaaDoor
