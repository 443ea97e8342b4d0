/- Walks: what two vectors have in common, which stands first, and whether one begins with the other, by both. -/
import Derived.Test.YtdjlmmgnknfkfabK
namespace Go.Proofs.Ytdjlmmgnknfkfab
open Go.RowKit
attribute [local go_sem ↓] Go.wp_at_zero Go.wp_at_succ

/-- Which of two rows stands first. -/
def cmpN (n b m c : Nat) : Int :=
  if cmn (bl n b) (bl m c) = n ∧ cmn (bl n b) (bl m c) = m then 0 else if cmn (bl n b) (bl m c) = n then -1 else if cmn (bl n b) (bl m c) = m then 1 else if bt n b (cmn (bl n b) (bl m c)) = 0 then -1 else 1

theorem cmn_pre (n b m c : Nat) (hb : b < 2 ^ n) (hc : c < 2 ^ m) : cmn (bl n b) (bl m c) = m ↔ m ≤ n ∧ pre n b m = c := by
  have hl := cmn_le (bl n b) (bl m c)
  rw [bl_length, bl_length] at hl
  constructor
  · intro h
    have hm : m ≤ n := by omega
    refine ⟨hm, ?_⟩
    have e : bl m (pre n b m) = bl m c := by
      unfold pre
      rw [← bl_take n b m hm]
      apply List.ext_getElem?
      intro i
      by_cases hi : i < m
      · rw [List.getElem?_take, if_pos hi]
        exact cmn_same _ _ i (by omega)
      · rw [List.getElem?_eq_none (by rw [List.length_take, bl_length]; omega), List.getElem?_eq_none (by rw [bl_length]; omega)]
    have h1 := congrArg ofl e
    rw [ofl_bl m c hc] at h1
    rw [ofl_bl _ _ (pre_lt n b m hb hm)] at h1
    exact h1
  · rintro ⟨hm, rfl⟩
    apply cmn_eq
    · rw [bl_length]; exact hm
    · rw [bl_length]; exact Nat.le_refl _
    · intro i hi
      have e : ((bl n b).take m)[i]? = (bl m (b / 2 ^ (n - m)))[i]? := by rw [bl_take n b m hm]
      rw [List.getElem?_take, if_pos hi] at e
      exact e
    · right; left; rw [bl_length]

def cmE (n b m c : Int) : Int := sel (rbS n b m c) (cmn (bl n.toNat b.toNat) (bl m.toNat c.toNat) : Nat)
def coE (n b m c : Int) : Int := sel (rbS n b m c) (cmpN n.toNat b.toNat m.toNat c.toNat)

/-- Two vectors that may both be, as numbers. -/
theorem both_nat {n b m c : Int} (h : rbS n b m c = 0) (hb : 0 ≤ b) (hc : 0 ≤ c) : ∃ n' b' m' c' : Nat, n = n' ∧ b = b' ∧ m = m' ∧ c = c' ∧ n' ≤ 32 ∧ m' ≤ 32 ∧ b' < 2 ^ n' ∧ c' < 2 ^ m' ∧ b' < 18446744073709551616 ∧ c' < 18446744073709551616 := by
  obtain ⟨h1, h2⟩ := rbS_zero.1 h
  obtain ⟨n', b', rfl, rfl, e1, e2⟩ := rt_nat h1 hb
  obtain ⟨m', c', rfl, rfl, e3, e4⟩ := rt_nat h2 hc
  have := p32 n' e1
  have := p32 m' e3
  exact ⟨n', b', m', c', rfl, rfl, rfl, rfl, e1, e3, e2, e4, by omega, by omega⟩

theorem rbS_ne {n b m c : Int} (h : rbS n b m c ≠ 0) : rbS n b m c = 10 := by
  unfold rbS reS at *
  split at h
  · split at h
    · exact absurd rfl h
    · rw [if_pos (by assumption), if_neg (by assumption)]
  · rw [if_neg (by assumption)]



set_option maxHeartbeats 1000000 in
theorem vCompare_any (n b m c : Int) (hb : 0 ≤ b) (hc : 0 ≤ c) (w : World) :
    Calls Try.prog 7 #[(.agg #[.int .i64 (n), .int .u64 (b)]), (.agg #[.int .i64 (m), .int .u64 (c)])] w fun e w' => e = .returned (.tuple #[.int .i64 (coE n b m c), .int .i64 (rbS n b m c)]) ∧ Below w.heap.size w w' := by
  by_cases h : rbS n b m c = 0
  · obtain ⟨n, b, m, c, rfl, rfl, rfl, rfl, h1, h2, -, -, h5, h6⟩ := both_nat h hb hc
    unfold coE
    rw [sel_zero h]
    simp only [Int.toNat_natCast]
    have hle := cmn_le (bl n b) (bl m c)
    rw [bl_length, bl_length] at hle
    clear hb hc
    go_enter Try.func7, Try.ntmps7
    go_wp2_with fail
    refine (rightBoth_any _ _ _ _ (by omega) (by omega) _).mono ?_; rintro e w1 ⟨rfl, hb1⟩
    have I0 := hide (((Is2.new w (.int .i64 (n : Int)) (.int .u64 (b : Int))).alloc (.cells #[.int .i64 (m : Int), .int .u64 (c : Int)] 24)).below hb1)
    have i1 := ((Is2.new (w.alloc (.cells #[.int .i64 (n : Int), .int .u64 (b : Int)] 24)) (.int .i64 (m : Int)) (.int .u64 (c : Int))).below hb1)
    rw [World.size_alloc] at i1
    have I1 := hide i1
    clear i1
    have HB := hide (bx2 hb1)
    clear hb1
    obtain ⟨a0, a1, -, -⟩ := I0.out.c
    obtain ⟨b0, b1, -, -⟩ := I1.out.c
    go_wp2_with fail
    refine (vcommon_any _ _ _ _ _ (by omega) (by omega) h5 h6).mono ?_; rintro e w2 ⟨rfl, hb3⟩
    replace I0 := hide (I0.out.below hb3)
    replace I1 := hide (I1.out.below hb3)
    replace HB := hide (bstep HB.out hb3)
    clear a0 a1 b0 b1 hb3
    obtain ⟨a0, a1, -, -⟩ := I0.out.c
    obtain ⟨b0, b1, -, -⟩ := I1.out.c
    generalize hk : cmn (bl n b) (bl m c) = k at *
    have FIN : ∀ x : Int, x = (if k = n ∧ k = m then 0 else if k = n then -1 else if k = m then 1 else if bt n b k = 0 then -1 else 1) → Hid (Ending.returned (.tuple #[.int .i64 x, .int .i64 0]) = Ending.returned (.tuple #[.int .i64 (cmpN n b m c), .int .i64 (rbS (n : Int) b m c)])) := by
      intro x hxy; show _ = _; rw [hxy, h, cmpN, hk]
    clear hk
    by_cases q1 : k = n
    · have r1 : ((k : Int) == n) = true := by simp; omega
      by_cases q2 : k = m
      · have r2 : ((k : Int) == m) = true := by simp; omega
        have F := FIN 0 (by rw [if_pos ⟨q1, q2⟩])
        clear FIN q1 q2 h
        go_wp2
        go_ret2
        exact ⟨F.out, HB.out⟩
      · have r2 : ((k : Int) == m) = false := by simp; omega
        have F := FIN (-1) (by rw [if_neg (by omega), if_pos q1])
        clear FIN q1 q2 h
        go_wp2
        go_ret2
        exact ⟨F.out, HB.out⟩
    · have r1 : ((k : Int) == n) = false := by simp; omega
      by_cases q2 : k = m
      · have r2 : ((k : Int) == m) = true := by simp; omega
        have F := FIN 1 (by rw [if_neg (by omega), if_neg q1, if_pos q2])
        clear FIN q1 q2 h
        go_wp2
        go_ret2
        exact ⟨F.out, HB.out⟩
      · have r2 : ((k : Int) == m) = false := by simp; omega
        have hkn : k < n := by omega
        have hx := bt_le n b k
        by_cases q3 : bt n b k = 0
        · have F := FIN (-1) (by rw [if_neg (by omega), if_neg q1, if_neg q2, if_pos q3])
          have r3 : ((bt n b k : Nat) : Int) = 0 := by omega
          clear FIN q1 q2 h
          go_wp2_with fail
          refine (bitAt_any _ _ _ (by omega) (by omega) (by omega) (by omega) (by omega) _).mono ?_; rintro e w3 ⟨rfl, hb4⟩
          simp only [Int.toNat_natCast]
          go_wp2
          go_ret2
          exact ⟨F.out, bstep HB.out hb4⟩
        · have F := FIN 1 (by rw [if_neg (by omega), if_neg q1, if_neg q2, if_neg q3])
          have r3 : (((bt n b k : Nat) : Int) == 0) = false := by simp; omega
          clear FIN q1 q2 h
          go_wp2_with fail
          refine (bitAt_any _ _ _ (by omega) (by omega) (by omega) (by omega) (by omega) _).mono ?_; rintro e w3 ⟨rfl, hb4⟩
          simp only [Int.toNat_natCast]
          go_wp2
          go_ret2
          exact ⟨F.out, bstep HB.out hb4⟩
  · have hq : (rbS n b m c != 0) = true := by rw [bne_iff_ne]; exact h
    unfold coE
    rw [sel_ne h]
    clear h
    go_enter Try.func7, Try.ntmps7
    go_wp2_with fail
    refine (rightBoth_any _ _ _ _ (by omega) (by omega) _).mono ?_; rintro e w1 ⟨rfl, hb1⟩; obtain ⟨hc1, hf1⟩ := bcell hb1
    go_wp2
    go_ret2
    exact ⟨rfl, bx2 hb1⟩

end Go.Proofs.Ytdjlmmgnknfkfab
