/- Walks: how many first bits two vectors have in common, by package vec. -/
import Derived.Test.YtdjlmmgnknfkfaaC
namespace Go.Proofs.Ytdjlmmgnknfkfaa
open Go.RowKit
attribute [local go_sem ↓] Go.wp_at_zero Go.wp_at_succ

set_option maxHeartbeats 1000000 in
theorem vcommon_any (n b m c : Nat) (w : World) (hn : n ≤ 32) (hm : m ≤ 32) (hb : b < 18446744073709551616) (hc : c < 18446744073709551616) :
    Calls Try.prog 48 #[(.agg #[.int .i64 ((n : Int)), .int .u64 ((b : Int))]), (.agg #[.int .i64 ((m : Int)), .int .u64 ((c : Int))])] w fun e w' => e = .returned (.int .i64 (cmn (bl n b) (bl m c) : Nat)) ∧ Below w.heap.size w w' := by
  by_cases hmn : m < n
  all_goals
    go_enter Try.func48, Try.ntmps48
    go_wp2
    go_loopw [13] (fun i wr => ∃ k : Nat, k ≤ n ∧ k ≤ m ∧ i = .int .i64 (k : Int) ∧ (∀ j, j < k → (bl n b)[j]? = (bl m c)[j]?) ∧ Is2 wr w.heap.size (.int .i64 (n : Int)) (.int .u64 (b : Int)) ∧ Is2 wr (w.heap.size + 1) (.int .i64 (m : Int)) (.int .u64 (c : Int)) ∧ Below w.heap.size w wr)
      (fun i _ => n - (intOf i).toNat)
    case atStart =>
      refine ⟨0, by omega, by omega, rfl, by omega, (Is2.new w _ _).alloc _, ?_, ?_⟩
      · have := Is2.new (w.alloc (.cells #[.int .i64 (n : Int), .int .u64 (b : Int)] 24)) (.int .i64 (m : Int)) (.int .u64 (c : Int))
        simpa using this
      · exact ((Below.refl _ _).alloc (Nat.le_refl _) _).alloc (by simp) _
    case round =>
      obtain ⟨k, hk, hk2, rfl, hsame, i0, i1, hbw⟩ := hrel
      have HS := hide hsame
      have H0 := hide i0
      have H1 := hide i1
      have hz := i1.lt
      obtain ⟨a0, a1, -, -⟩ := i0.c
      obtain ⟨b0, b1, -, -⟩ := i1.c
      clear i0 i1 hsame
      by_cases hlt : k < n ∧ k < m
      · obtain ⟨h1, h2⟩ := hlt
        have E1 := hide (bl_get n b k h1)
        have E2 := hide (bl_get m c k h2)
        by_cases hx : bt n b k = bt m c k
        · have HX := hide hx
          have hq : (((bt n b k : Nat) : Int) != ((bt m c k : Nat) : Int)) = false := by simp [hx]
          clear hx
          go_wp2
          go_region_held3 (fun w' => w'.cell? ⟨w.heap.size, 0, none⟩ = some (.int .i64 (n : Int)) ∧ w'.cell? ⟨w.heap.size, 1, none⟩ = some (.int .u64 (b : Int)) ∧ w'.cell? ⟨w.heap.size + 1, 0, none⟩ = some (.int .i64 (m : Int)) ∧ w'.cell? ⟨w.heap.size + 1, 1, none⟩ = some (.int .u64 (c : Int)) ∧ w.heap.size + 1 < w'.heap.size)
            (first | go_keep | (go_split_ands; refine ⟨?_, ?_, ?_, ?_, ?_⟩ <;> first | assumption | (rw [hbb.cell (by simp; omega)]; assumption) | (have := hbb.size; first | omega | (simp at this; omega))))
            ((go_at_call 40; refine (bitAt_any _ _ _ (by omega) (by omega) (by omega) (by omega) (by omega) _).mono ?_; rintro e w' ⟨rfl, hbb⟩))
          all_goals
            have hB : Below wr.heap.size wr w' := bstep (bstep (Below.refl _ _).drew (by assumption)) hbb
            have hfin := hide (hbw.trans (hB.mono hbw.size))
            have G0 := hide (H0.out.below hB)
            have G1 := hide (H1.out.below hB)
            clear hB
            go_wp2
            refine ⟨⟨k + 1, by omega, by omega, by simp, ?_, G0.out, G1.out, hfin.out⟩, ?_⟩
            · intro j hj
              by_cases e : j = k
              · rw [e, E1.out, E2.out, HX.out]
              · exact HS.out j (by omega)
            · simp [intOf]; omega
        · have hq : (((bt n b k : Nat) : Int) != ((bt m c k : Nat) : Int)) = true := by rw [bne_iff_ne]; omega
          have HE : Hid (cmn (bl n b) (bl m c) = k) := cmn_eq _ _ k (by rw [bl_length]; omega) (by rw [bl_length]; omega) HS.out (by right; right; rw [E1.out, E2.out]; simpa using hx)
          clear hx
          go_wp2
          go_region_held3 (fun w' => w'.cell? ⟨w.heap.size, 0, none⟩ = some (.int .i64 (n : Int)) ∧ w'.cell? ⟨w.heap.size, 1, none⟩ = some (.int .u64 (b : Int)) ∧ w'.cell? ⟨w.heap.size + 1, 0, none⟩ = some (.int .i64 (m : Int)) ∧ w'.cell? ⟨w.heap.size + 1, 1, none⟩ = some (.int .u64 (c : Int)) ∧ w.heap.size + 1 < w'.heap.size)
            (first | go_keep | (go_split_ands; refine ⟨?_, ?_, ?_, ?_, ?_⟩ <;> first | assumption | (rw [hbb.cell (by simp; omega)]; assumption) | (have := hbb.size; first | omega | (simp at this; omega))))
            ((go_at_call 40; refine (bitAt_any _ _ _ (by omega) (by omega) (by omega) (by omega) (by omega) _).mono ?_; rintro e w' ⟨rfl, hbb⟩))
          all_goals
            have hB : Below wr.heap.size wr w' := bstep (bstep (Below.refl _ _).drew (by assumption)) hbb
            have hfin := hide (hbw.trans (hB.mono hbw.size))
            clear hB
            go_wp2
            go_ret
            exact ⟨ret_int (by rw [HE.out]), hfin.out⟩
      · have HE : Hid (cmn (bl n b) (bl m c) = k) := cmn_eq _ _ k (by rw [bl_length]; omega) (by rw [bl_length]; omega) HS.out (by rw [bl_length, bl_length]; omega)
        go_wp2
        go_ret
        exact ⟨ret_int (by rw [HE.out]; omega), hbw⟩

end Go.Proofs.Ytdjlmmgnknfkfaa
