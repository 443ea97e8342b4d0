/- The walk of statement VecDraws: true at every number, every vector and every bound. -/
import Derived.Test.YtdjlmmgnknfkfaaUB
namespace Go.Proofs.Ytdjlmmgnknfkfaa
open Go.RowKit
attribute [local go_sem ↓] Go.wp_at_zero Go.wp_at_succ

theorem pre_cells {w : World} {base g n b cap : Nat} (h : w.ownsRow base 24 2 (.slice (some ⟨g, 0, none⟩) (n + 1) cap) (n + 1) (pcells n b (n + 1))) :
    base ≤ g ∧ g < w.heap.size ∧ ∀ j, j < n + 1 → w.cell? ⟨g, j * 2, none⟩ = some (.int .i64 (j : Int)) ∧ w.cell? ⟨g, j * 2 + 1, none⟩ = some (.int .u64 (pre n b j : Nat)) := by
  rcases h.2 with ⟨h1, h2⟩ | ⟨g', cap', cur, e, hbase, hg, hn, hc, hsz, ht⟩
  · omega
  · cases e
    have hlt : g < w.heap.size := by
      rcases Nat.lt_or_ge g w.heap.size with hlt | hge
      · exact hlt
      · rw [Array.getElem?_eq_none hge] at hg; cases hg
    have hx : ∀ o, o < (n + 1) * 2 → w.cell? ⟨g, o, none⟩ = (pcells n b (n + 1))[o]? := by
      intro o ho
      rw [cell_of_row w g o _ _ _ hg, ← ht, List.getElem?_take_of_lt ho, Array.getElem?_toList]
    refine ⟨hbase, hlt, fun j hj => ?_⟩
    obtain ⟨p1, p2⟩ := pcells_get n b (n + 1) j hj
    exact ⟨(hx _ (by omega)).trans p1, (hx _ (by omega)).trans p2⟩

/-- The world in which the law tells the sequence of its closure: the closure's box, the count and the flag are new. -/
theorem told_world (W : World) (n b : Int) (W7 : World) (e : W7 = ((W.alloc (.cells #[.int .i64 n, .int .u64 b] 24)).alloc (.cells #[.int .i64 0] 3)).alloc (.cells #[.bool true] 4)) :
    Is2 W7 W.heap.size (.int .i64 n) (.int .u64 b) ∧ Is1 W7 (W.heap.size + 1) 3 (.int .i64 0) ∧ Is1 W7 (W.heap.size + 1 + 1) 4 (.bool true) ∧
    (∀ k, k < W.heap.size → W7.heap[k]? = W.heap[k]?) ∧ W7.heap.size = W.heap.size + 3 ∧ (∀ B, B ≤ W.heap.size → Below B W W7) := by
  subst e
  have s1 : (W.alloc (.cells #[.int .i64 n, .int .u64 b] 24)).heap.size = W.heap.size + 1 := by simp
  have s2 : ((W.alloc (.cells #[.int .i64 n, .int .u64 b] 24)).alloc (.cells #[.int .i64 0] 3)).heap.size = W.heap.size + 1 + 1 := by simp
  refine ⟨((Is2.new W _ _).alloc _).alloc _, ?_, ?_, ?_, by simp, ?_⟩
  · have h := (Is1.new (W.alloc (.cells #[.int .i64 n, .int .u64 b] 24)) 3 (.int .i64 0)).alloc (.cells #[.bool true] 4)
    rw [s1] at h
    exact h
  · have h := Is1.new ((W.alloc (.cells #[.int .i64 n, .int .u64 b] 24)).alloc (.cells #[.int .i64 0] 3)) 4 (.bool true)
    rw [s2] at h
    exact h
  · intro k hk
    rw [Below.heap_alloc _ _ _ (by omega), Below.heap_alloc _ _ _ (by omega), Below.heap_alloc _ _ _ hk]
  · intro B hB
    exact (((Below.refl B W).alloc hB _).alloc (by omega) _).alloc (by omega) _

set_option maxHeartbeats 4000000 in
set_option maxRecDepth 100000 in
theorem vecDraws_any (n x m c most : Int) (hc : 0 ≤ c) (hc2 : c < 18446744073709551616) (w : World) :
    Calls Try.prog 7 #[.int .i64 n, .int .u64 x, (.agg #[.int .i64 (m), .int .u64 (c)]), .int .i64 most] w fun e w' => e = .returned (.bool true) ∧ Below w.heap.size w w' := by
  obtain ⟨L, B, E, f1, f2⟩ : ∃ L B E : Int, (∀ w, Calls Try.prog 32 #[.int .i64 n, .int .u64 x] w fun e w' => e = .returned (.tuple #[(.agg #[.int .i64 (L), .int .u64 (B)]), .int .i64 E]) ∧ Below w.heap.size w w') ∧ (∀ w, Calls Try.prog 33 #[.int .i64 n, .int .u64 x] w fun e w' => e = .returned (.tuple #[(.agg #[.int .i64 (L), .int .u64 (B)]), .int .i64 E]) ∧ Below w.heap.size w w') :=
    ⟨_, _, _, fun w => vDraw_any n x w, fun w => rDraw_any n x w⟩
  replace f1 := hide f1
  replace f2 := hide f2
  go_enter Try.func7, Try.ntmps7
  go_wp2_with fail
  refine (f1.out _).mono ?_; rintro e w1 ⟨rfl, hb1⟩
  have IV : Hid (Is2 w1 w.heap.size (.int .i64 m) (.int .u64 c)) := ((Is2.new w (.int .i64 m) (.int .u64 c)).alloc (.cells #[.int .i64 most] 3)).below hb1
  have IM : Hid (Is1 w1 (w.heap.size + 1) 3 (.int .i64 most)) := by
    have h := (Is1.new (w.alloc (.cells #[.int .i64 m, .int .u64 c] 24)) 3 (.int .i64 most)).below hb1
    exact (by simpa using h : Is1 w1 (w.heap.size + 1) 3 (.int .i64 most))
  have HB := hide (bx2 hb1)
  clear hb1
  go_wp2_with fail
  refine (f2.out _).mono ?_; rintro e w2 ⟨rfl, hb2⟩
  have IA := hide ((Is2.new w1 (.int .i64 L) (.int .u64 B)).below hb2)
  replace IV := hide ((IV.out.alloc _).below hb2)
  replace IM := hide ((IM.out.alloc _).below hb2)
  replace HB := hide (bstep HB.out (bx hb2))
  clear hb2
  obtain ⟨a0, a1, -, -⟩ := IA.out.c
  have za := IA.out.lt
  go_wp2_with fail
  refine (vMix_any _ _).mono ?_; rintro e w3 ⟨rfl, rfl⟩
  go_wp2_with fail
  refine (rMix_any _ _).mono ?_; rintro e w3 ⟨rfl, rfl⟩
  replace IV := hide (IV.out.alloc (.cells #[.int .i64 L, .int .u64 B] 24))
  replace IM := hide (IM.out.alloc (.cells #[.int .i64 L, .int .u64 B] 24))
  replace HB := hide (HB.out.alloc HB.out.size (.cells #[.int .i64 L, .int .u64 B] 24))
  clear a0 a1 za IA
  generalize w2.alloc (.cells #[.int .i64 L, .int .u64 B] 24) = w3 at *
  obtain ⟨v0, v1, -, -⟩ := IV.out.c
  go_wp2_with fail
  by_cases h : rt m c = true
  · obtain ⟨N, b0, rfl, rfl, hN, hb0⟩ := rt_nat h hc
    have hz3 := IM.out.lt
    refine (rPrefixes_in N b0 hN hb0 _).mono ?_; rintro e w4 ⟨g, cap, rfl, hown, hb4⟩
    obtain ⟨p1, p2, p3⟩ := pre_cells hown
    have HP := hide p3
    replace IV := hide (IV.out.below hb4)
    replace IM := hide (IM.out.below hb4)
    replace HB := hide (bstep HB.out hb4)
    have HN := hide hb0
    have HG : Hid (w3.heap.size ≤ g) := p1
    have HG2 : Hid (g < w4.heap.size) := p2
    clear hb4 hown p3 v0 v1 hb0 h hc hc2 p1 p2
    obtain ⟨v0, v1, -, -⟩ := IV.out.c
    obtain ⟨m0, m1⟩ := IM.out.c
    have zv := IV.out.lt
    have zm := IM.out.lt
    by_cases hm : 1 ≤ most ∧ most ≤ 40
    · obtain ⟨hm1, hm2⟩ := hm
      go_wp2_with fail
      obtain ⟨mm, rfl⟩ := Int.eq_ofNat_of_zero_le (show 0 ≤ most by omega)
      have JW : Hid (Is1 (w4.alloc (.cells #[.slice (some ⟨g, 0, none⟩) (N + 1) cap] 38)) w4.heap.size 38 (.slice (some ⟨g, 0, none⟩) (N + 1) cap)) := Is1.new w4 _ _
      have JV := hide (IV.out.alloc (.cells #[.slice (some ⟨g, 0, none⟩) (N + 1) cap] 38))
      have JM := hide (IM.out.alloc (.cells #[.slice (some ⟨g, 0, none⟩) (N + 1) cap] 38))
      have JB := hide (HB.out.alloc HB.out.size (.cells #[.slice (some ⟨g, 0, none⟩) (N + 1) cap] 38))
      have JG : Hid ((w4.alloc (.cells #[.slice (some ⟨g, 0, none⟩) (N + 1) cap] 38)).heap[g]? = w4.heap[g]?) := Below.heap_alloc w4 _ g HG2.out
      have JS : Hid ((w4.alloc (.cells #[.slice (some ⟨g, 0, none⟩) (N + 1) cap] 38)).heap.size = w4.heap.size + 1) := by unfold Hid; simp
      generalize w4.alloc (.cells #[.slice (some ⟨g, 0, none⟩) (N + 1) cap] 38) = W5 at *
      refine (vPrefixes_any _ _ _).mono ?_; rintro e W6 ⟨rfl, rfl⟩
      have hnil := Try.seq_nil
      go_wp2_with fail
      generalize hW7 : ((W5.alloc (.cells #[.int .i64 (N : Int), .int .u64 (b0 : Int)] 24)).alloc (.cells #[.int .i64 0] 3)).alloc (.cells #[.bool true] 4) = W7
      obtain ⟨t1, t2, t3, t4, t5, t6⟩ := told_world W5 (N : Int) (b0 : Int) W7 hW7.symm
      clear hW7
      have q5 : W5.heap.size = w4.heap.size + 1 := JS.out
      have TW := hide (JW.out.cell_of (t4 w4.heap.size (by omega)))
      have TM := hide (JM.out.cell_of (t4 (w.heap.size + 1) (by omega)))
      have qg : g < w4.heap.size := HG2.out
      have qg2 : w3.heap.size ≤ g := HG.out
      have TG : Hid (W7.heap[g]? = w4.heap[g]?) := (t4 g (by omega)).trans JG.out
      refine (seq_in N b0 hN HN.out (W5.heap.size + 1 + 1) (W5.heap.size + 1) w4.heap.size (w.heap.size + 1) W5.heap.size g mm cap W7 (by omega) t3 t2 TW.out TM.out t1 (by omega)
        (fun j hj => ⟨(World.cell?_of_block (w := w4) TG.out).trans (HP.out j hj).1, (World.cell?_of_block (w := w4) TG.out).trans (HP.out j hj).2⟩)
        (by omega) (by omega) (by omega) (by omega) (by omega) (by omega) (by omega) (by omega) (by omega)).mono ?_
      rintro e W8 ⟨rfl, u1, u2, u3, u4⟩
      have UW := hide (TW.out.cell_of (u3 w4.heap.size (by omega) (by omega) (by omega)))
      have UM := hide (TM.out.cell_of (u3 (w.heap.size + 1) (by omega) (by omega) (by omega)))
      have hB : Below w.heap.size w W8 := (JB.out.trans (t6 w.heap.size (by omega))).trans (u4 w.heap.size (by omega) (by omega) (by omega))
      have HB8 := hide hB
      obtain ⟨c0, -⟩ := u1.c
      obtain ⟨c1, -⟩ := u2.c
      obtain ⟨c2, -⟩ := UW.out.c
      obtain ⟨c3, -⟩ := UM.out.c
      clear u3 u4 u1 u2 t1 t2 t3 t4 t5 t6 hB v0 v1 m0 m1 q5 qg qg2
      rcases Nat.lt_trichotomy (N + 1) mm with hq | hq | hq
      · rw [Nat.min_eq_left (by omega)] at c1
        have q1 : (N : Int) + 1 < mm := by omega
        go_wp2_with fail
        refine (alive_any _).mono ?_; rintro e w9 ⟨rfl, hb9⟩
        go_wp2
        go_ret
        exact ⟨rfl, bstep HB8.out hb9⟩
      · rw [Nat.min_eq_left (by omega)] at c1
        subst hq
        go_wp2_with fail
        refine (alive_any _).mono ?_; rintro e w9 ⟨rfl, hb9⟩
        go_wp2
        go_ret
        exact ⟨rfl, bstep HB8.out hb9⟩
      · rw [Nat.min_eq_right (by omega)] at c1
        have q1 : (mm : Int) < (N : Int) + 1 := by omega
        go_wp2_with fail
        refine (alive_any _).mono ?_; rintro e w9 ⟨rfl, hb9⟩
        go_wp2
        go_ret
        exact ⟨rfl, bstep HB8.out hb9⟩
    · by_cases hm1 : most < 1
      · go_wp2_with fail
        replace IV := hide (IV.out.other ⟨w.heap.size + 1, 0, none⟩ (.int .i64 40) (by simp))
        replace IM := hide (IM.out.set (.int .i64 40))
        replace HB := hide (HB.out.setCell (p := ⟨w.heap.size + 1, 0, none⟩) (by simp) (.int .i64 40))
        have HS4 : Hid (w4.heap.size = (w4.setCell ⟨w.heap.size + 1, 0, none⟩ (.int .i64 40)).heap.size) := by unfold Hid; simp
        have HG4 : Hid ((w4.setCell ⟨w.heap.size + 1, 0, none⟩ (.int .i64 40)).heap[g]? = w4.heap[g]?) := Below.heap_setCell w4 _ _ g (by have := HG.out; simp; omega)
        generalize (w4.setCell ⟨w.heap.size + 1, 0, none⟩ (.int .i64 40)) = W4 at *
        obtain ⟨mm, hmm⟩ : ∃ mm : Nat, mm = 40 := ⟨_, rfl⟩
        have e40 : (40 : Int) = (mm : Int) := by omega
        rw [e40] at IM
        clear e40
        have JW : Hid (Is1 (W4.alloc (.cells #[.slice (some ⟨g, 0, none⟩) (N + 1) cap] 38)) w4.heap.size 38 (.slice (some ⟨g, 0, none⟩) (N + 1) cap)) := by rw [HS4.out]; exact Is1.new W4 _ _
        have JV := hide (IV.out.alloc (.cells #[.slice (some ⟨g, 0, none⟩) (N + 1) cap] 38))
        have JM := hide (IM.out.alloc (.cells #[.slice (some ⟨g, 0, none⟩) (N + 1) cap] 38))
        have JB := hide (HB.out.alloc HB.out.size (.cells #[.slice (some ⟨g, 0, none⟩) (N + 1) cap] 38))
        have JG : Hid ((W4.alloc (.cells #[.slice (some ⟨g, 0, none⟩) (N + 1) cap] 38)).heap[g]? = w4.heap[g]?) := (Below.heap_alloc W4 _ g (by rw [← HS4.out]; exact HG2.out)).trans HG4.out
        have JS : Hid ((W4.alloc (.cells #[.slice (some ⟨g, 0, none⟩) (N + 1) cap] 38)).heap.size = w4.heap.size + 1) := by unfold Hid; simp; exact HS4.out.symm
        generalize W4.alloc (.cells #[.slice (some ⟨g, 0, none⟩) (N + 1) cap] 38) = W5 at *
        refine (vPrefixes_any _ _ _).mono ?_; rintro e W6 ⟨rfl, rfl⟩
        have hnil := Try.seq_nil
        go_wp2_with fail
        generalize hW7 : ((W5.alloc (.cells #[.int .i64 (N : Int), .int .u64 (b0 : Int)] 24)).alloc (.cells #[.int .i64 0] 3)).alloc (.cells #[.bool true] 4) = W7
        obtain ⟨t1, t2, t3, t4, t5, t6⟩ := told_world W5 (N : Int) (b0 : Int) W7 hW7.symm
        clear hW7
        have q5 : W5.heap.size = w4.heap.size + 1 := JS.out
        have TW := hide (JW.out.cell_of (t4 w4.heap.size (by omega)))
        have TM := hide (JM.out.cell_of (t4 (w.heap.size + 1) (by omega)))
        have qg : g < w4.heap.size := HG2.out
        have qg2 : w3.heap.size ≤ g := HG.out
        have TG : Hid (W7.heap[g]? = w4.heap[g]?) := (t4 g (by omega)).trans JG.out
        refine (seq_in N b0 hN HN.out (W5.heap.size + 1 + 1) (W5.heap.size + 1) w4.heap.size (w.heap.size + 1) W5.heap.size g mm cap W7 (by omega) t3 t2 TW.out TM.out t1 (by omega)
          (fun j hj => ⟨(World.cell?_of_block (w := w4) TG.out).trans (HP.out j hj).1, (World.cell?_of_block (w := w4) TG.out).trans (HP.out j hj).2⟩)
          (by omega) (by omega) (by omega) (by omega) (by omega) (by omega) (by omega) (by omega) (by omega)).mono ?_
        rintro e W8 ⟨rfl, u1, u2, u3, u4⟩
        have UW := hide (TW.out.cell_of (u3 w4.heap.size (by omega) (by omega) (by omega)))
        have UM := hide (TM.out.cell_of (u3 (w.heap.size + 1) (by omega) (by omega) (by omega)))
        have hB : Below w.heap.size w W8 := (JB.out.trans (t6 w.heap.size (by omega))).trans (u4 w.heap.size (by omega) (by omega) (by omega))
        have HB8 := hide hB
        obtain ⟨c0, -⟩ := u1.c
        obtain ⟨c1, -⟩ := u2.c
        obtain ⟨c2, -⟩ := UW.out.c
        obtain ⟨c3, -⟩ := UM.out.c
        clear u3 u4 u1 u2 t1 t2 t3 t4 t5 t6 hB v0 v1 m0 m1 q5 qg qg2
        have q1 : (N : Int) + 1 < mm := by omega
        rw [Nat.min_eq_left (by omega)] at c1
        clear hmm
        go_wp2_with fail
        refine (alive_any _).mono ?_; rintro e w9 ⟨rfl, hb9⟩
        go_wp2
        go_ret
        exact ⟨rfl, bstep HB8.out hb9⟩
      · have hm2 : 40 < most := by omega
        go_wp2_with fail
        replace IV := hide (IV.out.other ⟨w.heap.size + 1, 0, none⟩ (.int .i64 40) (by simp))
        replace IM := hide (IM.out.set (.int .i64 40))
        replace HB := hide (HB.out.setCell (p := ⟨w.heap.size + 1, 0, none⟩) (by simp) (.int .i64 40))
        have HS4 : Hid (w4.heap.size = (w4.setCell ⟨w.heap.size + 1, 0, none⟩ (.int .i64 40)).heap.size) := by unfold Hid; simp
        have HG4 : Hid ((w4.setCell ⟨w.heap.size + 1, 0, none⟩ (.int .i64 40)).heap[g]? = w4.heap[g]?) := Below.heap_setCell w4 _ _ g (by have := HG.out; simp; omega)
        generalize (w4.setCell ⟨w.heap.size + 1, 0, none⟩ (.int .i64 40)) = W4 at *
        obtain ⟨mm, hmm⟩ : ∃ mm : Nat, mm = 40 := ⟨_, rfl⟩
        have e40 : (40 : Int) = (mm : Int) := by omega
        rw [e40] at IM
        clear e40
        have JW : Hid (Is1 (W4.alloc (.cells #[.slice (some ⟨g, 0, none⟩) (N + 1) cap] 38)) w4.heap.size 38 (.slice (some ⟨g, 0, none⟩) (N + 1) cap)) := by rw [HS4.out]; exact Is1.new W4 _ _
        have JV := hide (IV.out.alloc (.cells #[.slice (some ⟨g, 0, none⟩) (N + 1) cap] 38))
        have JM := hide (IM.out.alloc (.cells #[.slice (some ⟨g, 0, none⟩) (N + 1) cap] 38))
        have JB := hide (HB.out.alloc HB.out.size (.cells #[.slice (some ⟨g, 0, none⟩) (N + 1) cap] 38))
        have JG : Hid ((W4.alloc (.cells #[.slice (some ⟨g, 0, none⟩) (N + 1) cap] 38)).heap[g]? = w4.heap[g]?) := (Below.heap_alloc W4 _ g (by rw [← HS4.out]; exact HG2.out)).trans HG4.out
        have JS : Hid ((W4.alloc (.cells #[.slice (some ⟨g, 0, none⟩) (N + 1) cap] 38)).heap.size = w4.heap.size + 1) := by unfold Hid; simp; exact HS4.out.symm
        generalize W4.alloc (.cells #[.slice (some ⟨g, 0, none⟩) (N + 1) cap] 38) = W5 at *
        refine (vPrefixes_any _ _ _).mono ?_; rintro e W6 ⟨rfl, rfl⟩
        have hnil := Try.seq_nil
        go_wp2_with fail
        generalize hW7 : ((W5.alloc (.cells #[.int .i64 (N : Int), .int .u64 (b0 : Int)] 24)).alloc (.cells #[.int .i64 0] 3)).alloc (.cells #[.bool true] 4) = W7
        obtain ⟨t1, t2, t3, t4, t5, t6⟩ := told_world W5 (N : Int) (b0 : Int) W7 hW7.symm
        clear hW7
        have q5 : W5.heap.size = w4.heap.size + 1 := JS.out
        have TW := hide (JW.out.cell_of (t4 w4.heap.size (by omega)))
        have TM := hide (JM.out.cell_of (t4 (w.heap.size + 1) (by omega)))
        have qg : g < w4.heap.size := HG2.out
        have qg2 : w3.heap.size ≤ g := HG.out
        have TG : Hid (W7.heap[g]? = w4.heap[g]?) := (t4 g (by omega)).trans JG.out
        refine (seq_in N b0 hN HN.out (W5.heap.size + 1 + 1) (W5.heap.size + 1) w4.heap.size (w.heap.size + 1) W5.heap.size g mm cap W7 (by omega) t3 t2 TW.out TM.out t1 (by omega)
          (fun j hj => ⟨(World.cell?_of_block (w := w4) TG.out).trans (HP.out j hj).1, (World.cell?_of_block (w := w4) TG.out).trans (HP.out j hj).2⟩)
          (by omega) (by omega) (by omega) (by omega) (by omega) (by omega) (by omega) (by omega) (by omega)).mono ?_
        rintro e W8 ⟨rfl, u1, u2, u3, u4⟩
        have UW := hide (TW.out.cell_of (u3 w4.heap.size (by omega) (by omega) (by omega)))
        have UM := hide (TM.out.cell_of (u3 (w.heap.size + 1) (by omega) (by omega) (by omega)))
        have hB : Below w.heap.size w W8 := (JB.out.trans (t6 w.heap.size (by omega))).trans (u4 w.heap.size (by omega) (by omega) (by omega))
        have HB8 := hide hB
        obtain ⟨c0, -⟩ := u1.c
        obtain ⟨c1, -⟩ := u2.c
        obtain ⟨c2, -⟩ := UW.out.c
        obtain ⟨c3, -⟩ := UM.out.c
        clear u3 u4 u1 u2 t1 t2 t3 t4 t5 t6 hB v0 v1 m0 m1 q5 qg qg2
        have q1 : (N : Int) + 1 < mm := by omega
        rw [Nat.min_eq_left (by omega)] at c1
        clear hmm
        go_wp2_with fail
        refine (alive_any _).mono ?_; rintro e w9 ⟨rfl, hb9⟩
        go_wp2
        go_ret
        exact ⟨rfl, bstep HB8.out hb9⟩
  · replace h : rt m c = false := by simpa using h
    have hz3 := IM.out.lt
    refine (rPrefixes_no m c h _).mono ?_; rintro e w4 ⟨rfl, hb4⟩
    replace IV := hide (IV.out.below hb4)
    replace IM := hide (IM.out.below hb4)
    replace HB := hide (bstep HB.out hb4)
    clear hb4 v0 v1 hc hc2
    obtain ⟨v0, v1, -, -⟩ := IV.out.c
    obtain ⟨m0, m1⟩ := IM.out.c
    have zv := IV.out.lt
    have zm := IM.out.lt
    by_cases hm : 1 ≤ most ∧ most ≤ 40
    · obtain ⟨hm1, hm2⟩ := hm
      go_wp2_with fail
      obtain ⟨mm, rfl⟩ := Int.eq_ofNat_of_zero_le (show 0 ≤ most by omega)
      have JW : Hid (Is1 (w4.alloc (.cells #[.slice none 0 0] 38)) w4.heap.size 38 (.slice none 0 0)) := Is1.new w4 _ _
      have JV := hide (IV.out.alloc (.cells #[.slice none 0 0] 38))
      have JM := hide (IM.out.alloc (.cells #[.slice none 0 0] 38))
      have JB := hide (HB.out.alloc HB.out.size (.cells #[.slice none 0 0] 38))
      have JS : Hid ((w4.alloc (.cells #[.slice none 0 0] 38)).heap.size = w4.heap.size + 1) := by unfold Hid; simp
      generalize w4.alloc (.cells #[.slice none 0 0] 38) = W5 at *
      refine (vPrefixes_any _ _ _).mono ?_; rintro e W6 ⟨rfl, rfl⟩
      have hnil := Try.seq_nil
      go_wp2_with fail
      generalize hW7 : ((W5.alloc (.cells #[.int .i64 m, .int .u64 c] 24)).alloc (.cells #[.int .i64 0] 3)).alloc (.cells #[.bool true] 4) = W7
      obtain ⟨t1, t2, t3, t4, t5, t6⟩ := told_world W5 m c W7 hW7.symm
      clear hW7
      have q5 : W5.heap.size = w4.heap.size + 1 := JS.out
      have TW := hide (JW.out.cell_of (t4 w4.heap.size (by omega)))
      have TM := hide (JM.out.cell_of (t4 (w.heap.size + 1) (by omega)))
      refine (seq_no m c _ _ W5.heap.size W7 h t1).mono ?_
      rintro e W8 ⟨rfl, ub⟩
      have u1 := t3.below ub
      have u2 := t2.below ub
      have UW := hide (TW.out.below ub)
      have UM := hide (TM.out.below ub)
      have hB : Below w.heap.size w W8 := (JB.out.trans (t6 w.heap.size (by omega))).trans (ub.mono (by omega))
      have HB8 := hide hB
      obtain ⟨c0, -⟩ := u1.c
      obtain ⟨c1, -⟩ := u2.c
      obtain ⟨c2, -⟩ := UW.out.c
      obtain ⟨c3, -⟩ := UM.out.c
      clear ub u1 u2 t1 t2 t3 t4 t5 t6 hB v0 v1 m0 m1 q5
      go_wp2_with fail
      refine (alive_any _).mono ?_; rintro e w9 ⟨rfl, hb9⟩
      go_wp2
      go_ret
      exact ⟨rfl, bstep HB8.out hb9⟩
    · by_cases hm1 : most < 1
      · go_wp2_with fail
        replace IV := hide (IV.out.other ⟨w.heap.size + 1, 0, none⟩ (.int .i64 40) (by simp))
        replace IM := hide (IM.out.set (.int .i64 40))
        replace HB := hide (HB.out.setCell (p := ⟨w.heap.size + 1, 0, none⟩) (by simp) (.int .i64 40))
        have HS4 : Hid (w4.heap.size = (w4.setCell ⟨w.heap.size + 1, 0, none⟩ (.int .i64 40)).heap.size) := by unfold Hid; simp
        generalize (w4.setCell ⟨w.heap.size + 1, 0, none⟩ (.int .i64 40)) = W4 at *
        obtain ⟨mm, hmm⟩ : ∃ mm : Nat, mm = 40 := ⟨_, rfl⟩
        have e40 : (40 : Int) = (mm : Int) := by omega
        rw [e40] at IM
        clear e40
        have JW : Hid (Is1 (W4.alloc (.cells #[.slice none 0 0] 38)) w4.heap.size 38 (.slice none 0 0)) := by rw [HS4.out]; exact Is1.new W4 _ _
        have JV := hide (IV.out.alloc (.cells #[.slice none 0 0] 38))
        have JM := hide (IM.out.alloc (.cells #[.slice none 0 0] 38))
        have JB := hide (HB.out.alloc HB.out.size (.cells #[.slice none 0 0] 38))
        have JS : Hid ((W4.alloc (.cells #[.slice none 0 0] 38)).heap.size = w4.heap.size + 1) := by unfold Hid; simp; exact HS4.out.symm
        generalize W4.alloc (.cells #[.slice none 0 0] 38) = W5 at *
        refine (vPrefixes_any _ _ _).mono ?_; rintro e W6 ⟨rfl, rfl⟩
        have hnil := Try.seq_nil
        go_wp2_with fail
        generalize hW7 : ((W5.alloc (.cells #[.int .i64 m, .int .u64 c] 24)).alloc (.cells #[.int .i64 0] 3)).alloc (.cells #[.bool true] 4) = W7
        obtain ⟨t1, t2, t3, t4, t5, t6⟩ := told_world W5 m c W7 hW7.symm
        clear hW7
        have q5 : W5.heap.size = w4.heap.size + 1 := JS.out
        have TW := hide (JW.out.cell_of (t4 w4.heap.size (by omega)))
        have TM := hide (JM.out.cell_of (t4 (w.heap.size + 1) (by omega)))
        refine (seq_no m c _ _ W5.heap.size W7 h t1).mono ?_
        rintro e W8 ⟨rfl, ub⟩
        have u1 := t3.below ub
        have u2 := t2.below ub
        have UW := hide (TW.out.below ub)
        have UM := hide (TM.out.below ub)
        have hB : Below w.heap.size w W8 := (JB.out.trans (t6 w.heap.size (by omega))).trans (ub.mono (by omega))
        have HB8 := hide hB
        obtain ⟨c0, -⟩ := u1.c
        obtain ⟨c1, -⟩ := u2.c
        obtain ⟨c2, -⟩ := UW.out.c
        obtain ⟨c3, -⟩ := UM.out.c
        clear ub u1 u2 t1 t2 t3 t4 t5 t6 hB v0 v1 m0 m1 q5
        go_wp2_with fail
        refine (alive_any _).mono ?_; rintro e w9 ⟨rfl, hb9⟩
        go_wp2
        go_ret
        exact ⟨rfl, bstep HB8.out hb9⟩
      · have hm2 : 40 < most := by omega
        go_wp2_with fail
        replace IV := hide (IV.out.other ⟨w.heap.size + 1, 0, none⟩ (.int .i64 40) (by simp))
        replace IM := hide (IM.out.set (.int .i64 40))
        replace HB := hide (HB.out.setCell (p := ⟨w.heap.size + 1, 0, none⟩) (by simp) (.int .i64 40))
        have HS4 : Hid (w4.heap.size = (w4.setCell ⟨w.heap.size + 1, 0, none⟩ (.int .i64 40)).heap.size) := by unfold Hid; simp
        generalize (w4.setCell ⟨w.heap.size + 1, 0, none⟩ (.int .i64 40)) = W4 at *
        obtain ⟨mm, hmm⟩ : ∃ mm : Nat, mm = 40 := ⟨_, rfl⟩
        have e40 : (40 : Int) = (mm : Int) := by omega
        rw [e40] at IM
        clear e40
        have JW : Hid (Is1 (W4.alloc (.cells #[.slice none 0 0] 38)) w4.heap.size 38 (.slice none 0 0)) := by rw [HS4.out]; exact Is1.new W4 _ _
        have JV := hide (IV.out.alloc (.cells #[.slice none 0 0] 38))
        have JM := hide (IM.out.alloc (.cells #[.slice none 0 0] 38))
        have JB := hide (HB.out.alloc HB.out.size (.cells #[.slice none 0 0] 38))
        have JS : Hid ((W4.alloc (.cells #[.slice none 0 0] 38)).heap.size = w4.heap.size + 1) := by unfold Hid; simp; exact HS4.out.symm
        generalize W4.alloc (.cells #[.slice none 0 0] 38) = W5 at *
        refine (vPrefixes_any _ _ _).mono ?_; rintro e W6 ⟨rfl, rfl⟩
        have hnil := Try.seq_nil
        go_wp2_with fail
        generalize hW7 : ((W5.alloc (.cells #[.int .i64 m, .int .u64 c] 24)).alloc (.cells #[.int .i64 0] 3)).alloc (.cells #[.bool true] 4) = W7
        obtain ⟨t1, t2, t3, t4, t5, t6⟩ := told_world W5 m c W7 hW7.symm
        clear hW7
        have q5 : W5.heap.size = w4.heap.size + 1 := JS.out
        have TW := hide (JW.out.cell_of (t4 w4.heap.size (by omega)))
        have TM := hide (JM.out.cell_of (t4 (w.heap.size + 1) (by omega)))
        refine (seq_no m c _ _ W5.heap.size W7 h t1).mono ?_
        rintro e W8 ⟨rfl, ub⟩
        have u1 := t3.below ub
        have u2 := t2.below ub
        have UW := hide (TW.out.below ub)
        have UM := hide (TM.out.below ub)
        have hB : Below w.heap.size w W8 := (JB.out.trans (t6 w.heap.size (by omega))).trans (ub.mono (by omega))
        have HB8 := hide hB
        obtain ⟨c0, -⟩ := u1.c
        obtain ⟨c1, -⟩ := u2.c
        obtain ⟨c2, -⟩ := UW.out.c
        obtain ⟨c3, -⟩ := UM.out.c
        clear ub u1 u2 t1 t2 t3 t4 t5 t6 hB v0 v1 m0 m1 q5
        go_wp2_with fail
        refine (alive_any _).mono ?_; rintro e w9 ⟨rfl, hb9⟩
        go_wp2
        go_ret
        exact ⟨rfl, bstep HB8.out hb9⟩

end Go.Proofs.Ytdjlmmgnknfkfaa
