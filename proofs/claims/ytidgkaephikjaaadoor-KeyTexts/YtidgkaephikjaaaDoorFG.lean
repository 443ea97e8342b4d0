/- Package key: the bytes of keys stand in the order of the keys. -/
import Derived.Test.YtidgkaephikjaaaDoorFE
namespace Go.Proofs.YtidgkaephikjaaaDoor
open Go.RowKit

/-- A row of bytes as a number. -/
def val : List UInt8 → Nat
  | [] => 0
  | c :: l => c.toNat * 256 ^ l.length + val l
theorem val_lt : ∀ l : List UInt8, val l < 256 ^ l.length
  | [] => by simp [val]
  | c :: l => by
    have h := val_lt l
    have hc := c.toNat_lt
    simp only [val, List.length_cons, Nat.pow_succ]
    have : c.toNat * 256 ^ l.length ≤ 255 * 256 ^ l.length := Nat.mul_le_mul_right _ (by omega)
    omega
theorem less_val : ∀ a b : List UInt8, a.length = b.length → Op.bytesLess a b = decide (val a < val b)
  | [], [], _ => by simp [Op.bytesLess, val]
  | x :: a, y :: b, h => by
    have hl : a.length = b.length := by simpa using h
    have ih := less_val a b hl
    have ha := val_lt a
    have hb := val_lt b
    rw [hl] at ha
    simp only [Op.bytesLess, ih, val, hl]
    rcases Nat.lt_trichotomy x.toNat y.toNat with hx | hx | hx
    · have h1 : x < y := UInt8.lt_iff_toNat_lt.2 hx
      have h2 : x.toNat * 256 ^ b.length + 256 ^ b.length ≤ y.toNat * 256 ^ b.length := by
        rw [← Nat.succ_mul]; exact Nat.mul_le_mul_right _ hx
      have h3 : x.toNat * 256 ^ b.length + val a < y.toNat * 256 ^ b.length + val b := by omega
      simp [h1, h3]
    · have h1 : x = y := UInt8.toNat_inj.1 hx
      subst h1
      simp
    · have h1 : ¬ x < y := fun h => by have := UInt8.lt_iff_toNat_lt.1 h; omega
      have h0 : ¬ x = y := fun h => by rw [h] at hx; omega
      have h2 : y.toNat * 256 ^ b.length + 256 ^ b.length ≤ x.toNat * 256 ^ b.length := by
        rw [← Nat.succ_mul]; exact Nat.mul_le_mul_right _ hx
      have h3 : ¬ x.toNat * 256 ^ b.length + val a < y.toNat * 256 ^ b.length + val b := by omega
      simp [h1, h0, h3]

/-- The nine bytes, as bytes. -/
def kbB (r n : Int) : List UInt8 := (kb r n).map fun x => UInt8.ofNat x.toNat
theorem kbB_len (r n : Int) : (kbB r n).length = 9 := rfl
theorem kb_lt (r n : Int) (h0 : 1 ≤ r) (h3 : r ≤ 3) (hn0 : 0 ≤ n) (hn : n < 18446744073709551616) : ∀ x ∈ kb r n, 0 ≤ x ∧ x < 256 := by
  intro x hx
  simp only [kb, List.mem_cons, List.not_mem_nil, or_false] at hx
  omega
theorem u8_of (x : Int) (h0 : 0 ≤ x) (h1 : x < 256) : ((UInt8.ofNat x.toNat).toNat : Int) = x := by
  rw [UInt8.toNat_ofNat']; omega
theorem kbB_cells (r n : Int) (h0 : 1 ≤ r) (h3 : r ≤ 3) (hn0 : 0 ≤ n) (hn : n < 18446744073709551616) : u8s (kb r n) = (kbB r n).map fun b => Value.int .u8 (b.toNat : Int) := by
  unfold u8s kbB
  rw [List.map_map]
  refine List.map_congr_left fun x hx => ?_
  obtain ⟨a, b⟩ := kb_lt r n h0 h3 hn0 hn x hx
  simp only [Function.comp]
  rw [u8_of x a b]
theorem val_kb (r n : Int) (h0 : 1 ≤ r) (h3 : r ≤ 3) (hn0 : 0 ≤ n) (hn : n < 18446744073709551616) : (val (kbB r n) : Int) = r * 18446744073709551616 + n := by
  have k := fun x h => kb_lt r n h0 h3 hn0 hn x h
  simp only [kb, List.mem_cons, List.not_mem_nil, or_false, forall_eq_or_imp, forall_eq] at k
  obtain ⟨k0, k1, k2, k3, k4, k5, k6, k7, k8⟩ := k
  have e0 := u8_of _ k0.1 k0.2
  have e1 := u8_of _ k1.1 k1.2
  have e2 := u8_of _ k2.1 k2.2
  have e3 := u8_of _ k3.1 k3.2
  have e4 := u8_of _ k4.1 k4.2
  have e5 := u8_of _ k5.1 k5.2
  have e6 := u8_of _ k6.1 k6.2
  have e7 := u8_of _ k7.1 k7.2
  have e8 := u8_of _ k8.1 k8.2
  simp only [kbB, kb, List.map_cons, List.map_nil, val, List.length_cons, List.length_nil, Nat.reduceAdd, Nat.reducePow]
  simp only [Int.natCast_add, Int.natCast_mul, e0, e1, e2, e3, e4, e5, e6, e7, e8]
  simp
  omega

theorem kb_order (r n s m : Int) (h0 : 1 ≤ r) (h3 : r ≤ 3) (hn0 : 0 ≤ n) (hn : n < 18446744073709551616) (g0 : 1 ≤ s) (g3 : s ≤ 3) (hm0 : 0 ≤ m) (hm : m < 18446744073709551616) :
    Op.bytesLess (kbB r n) (kbB s m) = klt (r, n) (s, m) := by
  rw [less_val (kbB r n) (kbB s m) rfl]
  have e1 := val_kb r n h0 h3 hn0 hn
  have e2 := val_kb s m g0 g3 hm0 hm
  unfold klt kcmp
  simp only
  rcases cmpI_cases r s with ⟨h, hx⟩ | ⟨h, hx⟩ | ⟨h, hx⟩ <;> rw [h]
  · rw [orI_nz _ (by decide)]; simp; omega
  · rw [orI_nz _ (by decide)]; simp; omega
  · rw [orI_z _ rfl]
    rcases cmpI_cases n m with ⟨g, hy⟩ | ⟨g, hy⟩ | ⟨g, hy⟩ <;> rw [g] <;> simp <;> omega

end Go.Proofs.YtidgkaephikjaaaDoor
