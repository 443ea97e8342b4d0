/- Walks: which of two vectors stands first, and whether one begins with the other, by the document's answer. -/
import Derived.Test.YtdjlmmgnknfkfaaO
namespace Go.Proofs.Ytdjlmmgnknfkfaa
open Go.RowKit
attribute [local go_sem ↓] Go.wp_at_zero Go.wp_at_succ

theorem cmn_stop (a b : List Nat) (h1 : cmn a b < a.length) (h2 : cmn a b < b.length) : a[cmn a b]? ≠ b[cmn a b]? := by
  induction a generalizing b with
  | nil => simp at h1
  | cons x s ih =>
    cases b with
    | nil => simp at h2
    | cons y t =>
      by_cases e : x = y
      · simp only [cmn, if_pos e] at *
        simpa using ih t (by simpa using h1) (by simpa using h2)
      · simp only [cmn, if_neg e]
        simpa using e

set_option maxHeartbeats 2000000 in
theorem rCompare_any (n b m c : Int) (hb : 0 ≤ b) (hc : 0 ≤ c) (w : World) :
    Calls Try.prog 25 #[(.agg #[.int .i64 (n), .int .u64 (b)]), (.agg #[.int .i64 (m), .int .u64 (c)])] w fun e w' => e = .returned (.tuple #[.int .i64 (coE n b m c), .int .i64 (rbS n b m c)]) ∧ Below w.heap.size w w' := by
  by_cases h : rbS n b m c = 0
  · obtain ⟨q1, q2⟩ := rbS_zero.1 h
    obtain ⟨n, b, m, c, rfl, rfl, rfl, rfl, h1, h2, -, -, h5, h6⟩ := both_nat h hb hc
    unfold coE
    rw [sel_zero h]
    simp only [Int.toNat_natCast]
    have HH := hide h
    clear hb hc h
    go_enter Try.func25, Try.ntmps25
    go_wp2_with fail
    refine (rright_any _ _ _).mono ?_; rintro e w1 ⟨rfl, hb1⟩
    have I0 := hide (((Is2.new w (.int .i64 (n : Int)) (.int .u64 (b : Int))).alloc (.cells #[.int .i64 (m : Int), .int .u64 (c : Int)] 24)).below hb1)
    have i1 := ((Is2.new (w.alloc (.cells #[.int .i64 (n : Int), .int .u64 (b : Int)] 24)) (.int .i64 (m : Int)) (.int .u64 (c : Int))).below hb1)
    rw [World.size_alloc] at i1
    have I1 := hide i1
    clear i1
    have HB := hide (bx2 hb1)
    clear hb1
    obtain ⟨a0, a1, -, -⟩ := I0.out.c
    obtain ⟨b0, b1, -, -⟩ := I1.out.c
    go_wp2_with fail
    refine (rright_any _ _ _).mono ?_; rintro e w2 ⟨rfl, hb3⟩
    replace I0 := hide (I0.out.below hb3)
    replace I1 := hide (I1.out.below hb3)
    replace HB := hide (bstep HB.out hb3)
    clear a0 a1 b0 b1 hb3
    obtain ⟨a0, a1, -, -⟩ := I0.out.c
    obtain ⟨b0, b1, -, -⟩ := I1.out.c
    have hz := I1.out.lt
    go_wp2
    go_region_held3 (fun w' => w'.cell? ⟨w.heap.size, 0, none⟩ = some (.int .i64 (n : Int)) ∧ w'.cell? ⟨w.heap.size, 1, none⟩ = some (.int .u64 (b : Int)) ∧ w'.cell? ⟨w.heap.size + 1, 0, none⟩ = some (.int .i64 (m : Int)) ∧ w'.cell? ⟨w.heap.size + 1, 1, none⟩ = some (.int .u64 (c : Int)) ∧ w.heap.size + 1 < w'.heap.size)
      (first | go_keep | (go_split_ands; refine ⟨?_, ?_, ?_, ?_, ?_⟩ <;> first | assumption | (rw [hbb.cell (by simp; omega)]; assumption) | (have := hbb.size; first | omega | (simp at this; omega))))
      ((go_at_call 41; refine (bits_any _ _ (by omega) (by omega) _).mono ?_; rintro e w' ⟨g, rfl, hg, hown, hbb⟩))
    all_goals
      have hB : Below w2.heap.size w2 w' := bstep (bstep (Below.refl _ _).drew (by assumption)) hbb
      replace HB := hide (bstep HB.out hB)
      have oA := (show World.ownsRow w' _ 3 1 _ n ((bl n b).map cell) by first | assumption | exact ownsRow_below (by assumption) hbb)
      have oB := (show World.ownsRow w' _ 3 1 _ m ((bl m c).map cell) by first | assumption | exact ownsRow_below (by assumption) hbb)
      have rA := hide (row_of oA).2.1
      have rB := hide (row_of oB).2.1
      replace oA := hide oA
      replace oB := hide oB
      clear hB hbb hown I0 I1 a0 a1 b0 b1
      go_wp2_with fail
      refine (rcommon_any _ _ _ _ _ _ (bl n b) (bl m c) _ (bl_length _ _) (bl_length _ _) (by omega) (by omega) rA.out rB.out).mono ?_; rintro e w4 ⟨rfl, hb4⟩
      replace HB := hide (bstep HB.out hb4)
      replace rA := hide (row_of (ownsRow_below oA.out hb4)).2.1
      replace rB := hide (row_of (ownsRow_below oB.out hb4)).2.1
      clear oA oB hb4
      have hle := cmn_le (bl n b) (bl m c)
      have hst := cmn_stop (bl n b) (bl m c)
      rw [bl_length, bl_length] at hle hst
      generalize hk : cmn (bl n b) (bl m c) = k at *
      have FIN : ∀ x : Int, x = (if k = n ∧ k = m then 0 else if k = n then -1 else if k = m then 1 else if bt n b k = 0 then -1 else 1) → Hid (Ending.returned (.tuple #[.int .i64 x, .int .i64 0]) = Ending.returned (.tuple #[.int .i64 (cmpN n b m c), .int .i64 (rbS (n : Int) b m c)])) := by
        intro x hxy; show _ = _; rw [hxy, HH.out, cmpN, hk]
      have HST := hide hst
      clear hk hst
      by_cases p1 : k = n
      · have r1 : ((k : Int) == n) = true := by simp; omega
        by_cases p2 : k = m
        · have r2 : ((k : Int) == m) = true := by simp; omega
          have F := FIN 0 (by rw [if_pos ⟨p1, p2⟩])
          clear FIN p1 p2
          go_wp2
          go_ret2
          exact ⟨F.out, HB.out⟩
        · have r2 : ((k : Int) == m) = false := by simp; omega
          have F := FIN (-1) (by rw [if_neg (by omega), if_pos p1])
          clear FIN p1 p2
          go_wp2
          go_ret2
          exact ⟨F.out, HB.out⟩
      · have r1 : ((k : Int) == n) = false := by simp; omega
        by_cases p2 : k = m
        · have r2 : ((k : Int) == m) = true := by simp; omega
          have F := FIN 1 (by rw [if_neg (by omega), if_neg p1, if_pos p2])
          clear FIN p1 p2
          go_wp2
          go_ret2
          exact ⟨F.out, HB.out⟩
        · have r2 : ((k : Int) == m) = false := by simp; omega
          have hkn : k < n := by omega
          have hkm : k < m := by omega
          have i1 : (k : Int) < n := by omega
          have i2 : (k : Int) < m := by omega
          have i3 : (0 : Int) ≤ k := by omega
          have cA := rA.out k (by rw [bl_length]; omega)
          have cB := rB.out k (by rw [bl_length]; omega)
          have eA : (bl n b).getD k 0 = bt n b k := by simp [bl_get _ _ _ hkn]
          have eB : (bl m c).getD k 0 = bt m c k := by simp [bl_get _ _ _ hkm]
          rw [Nat.zero_add, eA, cell] at cA
          rw [Nat.zero_add, eB, cell] at cB
          have hne := HST.out hkn hkm
          rw [bl_get _ _ _ hkn, bl_get _ _ _ hkm] at hne
          have hne2 : bt n b k ≠ bt m c k := by intro h; exact hne (by rw [h])
          have hx := bt_le n b k
          have hy := bt_le m c k
          clear eA eB hne HST
          by_cases q3 : bt n b k = 0
          · have F := FIN (-1) (by rw [if_neg (by omega), if_neg p1, if_neg p2, if_pos q3])
            have r3 : ((bt n b k : Nat) : Int) < ((bt m c k : Nat) : Int) := by omega
            clear FIN p1 p2 q3 hne2
            generalize bt n b k = x at *
            generalize bt m c k = y at *
            go_wp2
            go_quiet (fail)
            go_wp2
            go_ret2
            exact ⟨F.out, below_drewN HB.out _⟩
          · have F := FIN 1 (by rw [if_neg (by omega), if_neg p1, if_neg p2, if_neg q3])
            have r3 : ¬ ((bt n b k : Nat) : Int) < ((bt m c k : Nat) : Int) := by omega
            clear FIN p1 p2 q3 hne2
            generalize bt n b k = x at *
            generalize bt m c k = y at *
            go_wp2
            go_quiet (fail)
            go_wp2
            go_ret2
            exact ⟨F.out, below_drewN HB.out _⟩
  · have h' := rbS_ne h
    unfold coE
    rw [sel_ne h, h']
    cases q1 : rt n b with
    | false =>
      clear h h'
      go_enter Try.func25, Try.ntmps25
      go_wp2_with fail
      refine (rright_any _ _ _).mono ?_; rintro e w1 ⟨rfl, hb1⟩; obtain ⟨hc1, hf1⟩ := bcell hb1
      go_wp2
      go_ret2
      exact ⟨rfl, bx2 hb1⟩
    | true =>
      have q2 : rt m c = false := by
        cases q2 : rt m c with
        | false => rfl
        | true => exact absurd (rbS_zero.2 ⟨q1, q2⟩) h
      clear h h'
      go_enter Try.func25, Try.ntmps25
      go_wp2_with fail
      refine (rright_any _ _ _).mono ?_; rintro e w1 ⟨rfl, hb1⟩; obtain ⟨hc1, hf1⟩ := bcell hb1
      go_wp2_with fail
      refine (rright_any _ _ _).mono ?_; rintro e w2 ⟨rfl, hb3⟩
      go_wp2
      go_ret2
      exact ⟨rfl, bstep (bx2 hb1) hb3⟩

end Go.Proofs.Ytdjlmmgnknfkfaa
