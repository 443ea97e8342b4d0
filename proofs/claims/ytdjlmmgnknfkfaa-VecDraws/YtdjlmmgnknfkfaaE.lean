/- Walks: a bit, the first bits, the others, and a turned bit, by package vec. -/
import Derived.Test.YtdjlmmgnknfkfaaD
namespace Go.Proofs.Ytdjlmmgnknfkfaa
open Go.RowKit

/-- x where there is no error, else 0. -/
def sel (e x : Int) : Int := if e = 0 then x else 0
theorem sel_zero {e : Int} (h : e = 0) (x : Int) : sel e x = x := if_pos h
theorem sel_ne {e : Int} (h : e ≠ 0) (x : Int) : sel e x = 0 := if_neg h

theorem hbS_zero {n b i : Int} (h : hbS n b i = 0) : rt n b = true ∧ 0 ≤ i ∧ i < n ∧ n ≤ 32 := by
  unfold hbS at h
  split at h
  · rename_i h1
    split at h
    · rename_i h2; exact ⟨h1, h2.1, h2.2, (of_decide_eq_true h1).2.1⟩
    · omega
  · omega
theorem hcS_zero {n b i : Int} (h : hcS n b i = 0) : rt n b = true ∧ 0 ≤ i ∧ i ≤ n ∧ n ≤ 32 := by
  unfold hcS at h
  split at h
  · rename_i h1
    split at h
    · rename_i h2; exact ⟨h1, h2.1, h2.2, (of_decide_eq_true h1).2.1⟩
    · omega
  · omega

set_option maxHeartbeats 400000 in
theorem vBit_any (n b i : Int) (hb : 0 ≤ b) (hb2 : b < 18446744073709551616) (w : World) :
    Calls Try.prog 9 #[(.agg #[.int .i64 (n), .int .u64 (b)]), .int .i64 i] w fun e w' => e = .returned (.tuple #[.int .i64 (sel (hbS n b i) (bt n.toNat b.toNat i.toNat : Nat)), .int .i64 (hbS n b i)]) ∧ Below w.heap.size w w' := by
  by_cases h : hbS n b i = 0
  · obtain ⟨_, h1, h2, h3⟩ := hbS_zero h
    have hx : (bt n.toNat b.toNat i.toNat : Int) ≤ 1 := by have := bt_le n.toNat b.toNat i.toNat; omega
    rw [sel_zero h]
    go_enter Try.func9, Try.ntmps9
    go_wp2_with fail
    refine (hasBit_any _ _ _ (by omega) _).mono ?_; rintro e w1 ⟨rfl, hb1⟩; obtain ⟨hc1, hf1⟩ := bcell hb1
    go_wp2_with fail
    refine (bitAt_any _ _ _ (by omega) (by omega) (by omega) (by omega) (by omega) _).mono ?_; rintro e w2 ⟨rfl, hb3⟩
    go_wp2
    go_ret2
    exact ⟨by rw [h]; rfl, bstep (bx hb1) hb3⟩
  · have hq : (hbS n b i != 0) = true := by rw [bne_iff_ne]; exact h
    rw [sel_ne h]
    clear h
    go_enter Try.func9, Try.ntmps9
    go_wp2_with fail
    refine (hasBit_any _ _ _ (by omega) _).mono ?_; rintro e w1 ⟨rfl, hb1⟩; obtain ⟨hc1, hf1⟩ := bcell hb1
    go_wp2
    go_ret2
    exact ⟨rfl, bx hb1⟩

set_option maxHeartbeats 400000 in
theorem vPrefix_any (n b i : Int) (hb : 0 ≤ b) (w : World) :
    Calls Try.prog 11 #[(.agg #[.int .i64 (n), .int .u64 (b)]), .int .i64 i] w fun e w' => e = .returned (.tuple #[(.agg #[.int .i64 (sel (hcS n b i) i), .int .u64 (sel (hcS n b i) (pre n.toNat b.toNat i.toNat : Nat))]), .int .i64 (hcS n b i)]) ∧ Below w.heap.size w w' := by
  by_cases h : hcS n b i = 0
  · obtain ⟨_, h1, h2, h3⟩ := hcS_zero h
    rw [sel_zero h, sel_zero h]
    go_enter Try.func11, Try.ntmps11
    go_wp2_with fail
    refine (hasCut_any _ _ _ (by omega) _).mono ?_; rintro e w1 ⟨rfl, hb1⟩; obtain ⟨hc1, hf1⟩ := bcell hb1
    have hz : w.heap.size + 1 < w1.heap.size := by have := hb1.size; simp at this; omega
    go_wp2_with fail
    refine (first_any _ _ _ (by omega) (by omega) (by omega) (by omega) _).mono ?_; rintro e w2 ⟨rfl, hb3⟩; obtain ⟨hc2, hf2⟩ := bcell hb3
    have I := ((Is2.new (w.alloc (.cells #[.int .i64 n, .int .u64 b] 24)) (.int .i64 0) (.int .u64 0)).below hb1).below hb3
    rw [World.size_alloc] at I
    obtain ⟨k0, k1, -, -⟩ := ((I.set0 (.int .i64 i)).set1 (.int .u64 (pre n.toNat b.toNat i.toNat : Nat))).c
    have K0 := hide k0
    have K1 := hide k1
    clear k0 k1 I
    go_wp2
    exact bodyPost_ret (v := .tuple #[(.agg #[.int .i64 (i), .int .u64 ((pre n.toNat b.toNat i.toNat : Nat))]), .int .i64 0]) (by simp [results, Try.results11, go_sem, K0.out, K1.out]) rfl ⟨by rw [h], ((bstep (bx2 hb1) hb3).setCell (by simp) _).setCell (by simp) _⟩
  · have hq : (hcS n b i != 0) = true := by rw [bne_iff_ne]; exact h
    rw [sel_ne h, sel_ne h]
    clear h
    go_enter Try.func11, Try.ntmps11
    go_wp2_with fail
    refine (hasCut_any _ _ _ (by omega) _).mono ?_; rintro e w1 ⟨rfl, hb1⟩; obtain ⟨hc1, hf1⟩ := bcell hb1
    have I := ((Is2.new (w.alloc (.cells #[.int .i64 n, .int .u64 b] 24)) (.int .i64 0) (.int .u64 0)).below hb1)
    rw [World.size_alloc] at I
    obtain ⟨k0, k1, -, -⟩ := ((I.set0 (.int .i64 0)).set1 (.int .u64 0)).c
    have K0 := hide k0
    have K1 := hide k1
    clear k0 k1 I
    go_wp2
    exact bodyPost_ret (v := .tuple #[(.agg #[.int .i64 (0), .int .u64 (0)]), .int .i64 (hcS n b i)]) (by simp [results, Try.results11, go_sem, K0.out, K1.out]) rfl ⟨rfl, ((bx2 hb1).setCell (by simp) _).setCell (by simp) _⟩

end Go.Proofs.Ytdjlmmgnknfkfaa
