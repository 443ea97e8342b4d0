/- Package key: Next, Prev, In, and the document's own. -/
import Derived.Test.YtidgkaephikjaaaDoorE
import Derived.Handy
import Derived.Laws.ResultCell
namespace Go.Proofs.YtidgkaephikjaaaDoor
open Go.RowKit

theorem Is2.set {w : World} {b : Nat} {x y : Value} (h : Is2 w b x y) (u v : Value) : Is2 ((w.setCell ⟨b, 0, none⟩ u).setCell ⟨b, 1, none⟩ v) b u v := by
  unfold Is2 at *
  rw [Sort.setCell_eq, Sort.setCell_eq]
  simp only [Sort.mapBlock, Array.getElem?_modify, if_true, h, Option.map_some, Sort.onCells]
  rfl

theorem res_key2 {fn : Func} {p u : Tmp} (h : fn.results = #[.cell p 25, .tmp u]) (tmps : Array Value) (W : World) (b : Nat) (x y : Int) (v : Value) (hp : tmps.getD p undef = .pointer (some ⟨b, 0, none⟩)) (hu : tmps.getD u undef = v) (I : Is2 W b (.int .i64 x) (.int .u64 y)) :
    (results fn tmps).run Tryd.prog W = .ok (.tuple #[(.agg #[.int .i64 (x), .int .u64 (y)]), v]) W := by
  obtain ⟨a0, a1, -, -⟩ := I.c
  have q1 := Tryd.isAgg25
  have q2 := Tryd.sizeOf25
  rw [results_cell_tmp h, hp, hu]
  simp [go_sem, loadVar, q1, q2, a0, a1]


set_option maxHeartbeats 2000000 in
theorem kNext_any (r n : Int) (h0 : 0 ≤ n) (h1 : n < 18446744073709551616) (w : World) (hR : Ranks w) :
    Calls Tryd.prog 16 #[(.agg #[.int .i64 (r), .int .u64 (n)])] w fun e w' => e = .returned (keyB (nxE r n)) ∧ Gr w w' := by
  have ck := kCheck_any r n ((w.alloc (.cells #[.int .i64 r, .int .u64 n] 25)).alloc (.cells #[.int .i64 0, .int .u64 0] 25)) (hR.gr (((Gr.refl w).alloc _).alloc _))
  have I0 := (Is2.new w (.int .i64 r) (.int .u64 n)).alloc (.cells #[.int .i64 0, .int .u64 0] 25)
  have I1 := Is2.new (w.alloc (.cells #[.int .i64 r, .int .u64 n] 25)) (.int .i64 0) (.int .u64 0)
  rw [World.size_alloc] at I1
  have HI0 := hide I0
  have HI1 := hide I1
  have HG := hide (show Gr w ((w.alloc (.cells #[.int .i64 r, .int .u64 n] 25)).alloc (.cells #[.int .i64 0, .int .u64 0] 25)) from ((Gr.refl w).alloc _).alloc _)
  clear I0 I1
  rcases ck_cases r n with ⟨hc, hn⟩ | ⟨hc, hd⟩
  · rw [show nxE r n = _ from by unfold nxE; rw [if_pos (Or.inl hc)]]
    rw [hc] at ck
    go_enter Tryd.func16, Tryd.ntmps16
    go_wp2_with fail
    refine ck.mono ?_; rintro e w1 ⟨rfl, hg⟩
    obtain ⟨a0, a1, -, -⟩ := (HI0.out.gr hg).c
    obtain ⟨b0, b1, f0, f1⟩ := (HI1.out.gr hg).c
    have hz := (HI1.out.gr hg).lt
    have hG := hide (HG.out.trans hg)
    have J := hide (HI1.out.gr hg)
    clear ck hg
    go_wp2
    (try simp only [Exit.inBlock, Exit.then])
    refine bodyPost_ret (res_key2 rfl _ _ (w.heap.size + 1) _ _ _ rfl rfl ?_) rfl ⟨rfl, ?_⟩
    · repeat (first | exact J.out.set _ _ | exact (J.out.alloc _).set _ _ | apply Is2.alloc)
    · repeat (first | exact hG.out | (refine Gr.set ?_ _ _ _ (by omega)) | apply Gr.alloc)
  · rcases hd with rfl | ⟨rfl, rfl⟩ | ⟨rfl, rfl⟩
    · by_cases hm : n = 18446744073709551615
      · subst hm
        rw [show nxE 2 18446744073709551615 = (3, 0, true) from by unfold nxE; rw [if_neg (by rw [hc]; decide), if_neg (by decide), if_pos rfl]]
        rw [hc] at ck
        go_enter Tryd.func16, Tryd.ntmps16
        go_wp2_with fail
        refine ck.mono ?_; rintro e w1 ⟨rfl, hg⟩
        obtain ⟨a0, a1, -, -⟩ := (HI0.out.gr hg).c
        obtain ⟨b0, b1, f0, f1⟩ := (HI1.out.gr hg).c
        have hz := (HI1.out.gr hg).lt
        have hG := hide (HG.out.trans hg)
        have J := hide (HI1.out.gr hg)
        clear ck hg
        go_wp2
        (try simp only [Exit.inBlock, Exit.then])
        refine bodyPost_ret (res_key2 rfl _ _ (w.heap.size + 1) _ _ _ rfl rfl ?_) rfl ⟨rfl, ?_⟩
        · repeat (first | exact J.out.set _ _ | exact (J.out.alloc _).set _ _ | apply Is2.alloc)
        · repeat (first | exact hG.out | (refine Gr.set ?_ _ _ _ (by omega)) | apply Gr.alloc)
      · have hm' : (n == 18446744073709551615) = false := by simp [hm]
        have hq : n + 1 < 18446744073709551616 := by omega
        rw [show nxE 2 n = (2, n + 1, true) from by unfold nxE; rw [if_neg (by rw [hc]; decide), if_neg (by decide), if_neg hm]]
        rw [hc] at ck
        go_enter Tryd.func16, Tryd.ntmps16
        go_wp2_with fail
        refine ck.mono ?_; rintro e w1 ⟨rfl, hg⟩
        obtain ⟨a0, a1, -, -⟩ := (HI0.out.gr hg).c
        obtain ⟨b0, b1, f0, f1⟩ := (HI1.out.gr hg).c
        have hz := (HI1.out.gr hg).lt
        have hG := hide (HG.out.trans hg)
        have J := hide (HI1.out.gr hg)
        clear ck hg
        go_wp2
        (try simp only [Exit.inBlock, Exit.then])
        refine bodyPost_ret (res_key2 rfl _ _ (w.heap.size + 1) _ _ _ rfl rfl ?_) rfl ⟨rfl, ?_⟩
        · repeat (first | exact J.out.set _ _ | exact (J.out.alloc _).set _ _ | apply Is2.alloc)
        · repeat (first | exact hG.out | (refine Gr.set ?_ _ _ _ (by omega)) | apply Gr.alloc)
    · rw [show nxE 1 0 = (2, 0, true) from by unfold nxE; rw [if_neg (by rw [hc]; decide), if_pos rfl]]
      rw [hc] at ck
      go_enter Tryd.func16, Tryd.ntmps16
      go_wp2_with fail
      refine ck.mono ?_; rintro e w1 ⟨rfl, hg⟩
      obtain ⟨a0, a1, -, -⟩ := (HI0.out.gr hg).c
      obtain ⟨b0, b1, f0, f1⟩ := (HI1.out.gr hg).c
      have hz := (HI1.out.gr hg).lt
      have hG := hide (HG.out.trans hg)
      have J := hide (HI1.out.gr hg)
      clear ck hg
      go_wp2
      (try simp only [Exit.inBlock, Exit.then])
      refine bodyPost_ret (res_key2 rfl _ _ (w.heap.size + 1) _ _ _ rfl rfl ?_) rfl ⟨rfl, ?_⟩
      · repeat (first | exact J.out.set _ _ | exact (J.out.alloc _).set _ _ | apply Is2.alloc)
      · repeat (first | exact hG.out | (refine Gr.set ?_ _ _ _ (by omega)) | apply Gr.alloc)
    · rw [show nxE 3 0 = (0, 0, false) from by unfold nxE; rw [if_pos (Or.inr rfl)]]
      rw [hc] at ck
      go_enter Tryd.func16, Tryd.ntmps16
      go_wp2_with fail
      refine ck.mono ?_; rintro e w1 ⟨rfl, hg⟩
      obtain ⟨a0, a1, -, -⟩ := (HI0.out.gr hg).c
      obtain ⟨b0, b1, f0, f1⟩ := (HI1.out.gr hg).c
      have hz := (HI1.out.gr hg).lt
      have hG := hide (HG.out.trans hg)
      have J := hide (HI1.out.gr hg)
      clear ck hg
      go_wp2
      (try simp only [Exit.inBlock, Exit.then])
      refine bodyPost_ret (res_key2 rfl _ _ (w.heap.size + 1) _ _ _ rfl rfl ?_) rfl ⟨rfl, ?_⟩
      · repeat (first | exact J.out.set _ _ | exact (J.out.alloc _).set _ _ | apply Is2.alloc)
      · repeat (first | exact hG.out | (refine Gr.set ?_ _ _ _ (by omega)) | apply Gr.alloc)

set_option maxHeartbeats 2000000 in
theorem kPrev_any (r n : Int) (h0 : 0 ≤ n) (h1 : n < 18446744073709551616) (w : World) (hR : Ranks w) :
    Calls Tryd.prog 18 #[(.agg #[.int .i64 (r), .int .u64 (n)])] w fun e w' => e = .returned (keyB (pvE r n)) ∧ Gr w w' := by
  have ck := kCheck_any r n ((w.alloc (.cells #[.int .i64 r, .int .u64 n] 25)).alloc (.cells #[.int .i64 0, .int .u64 0] 25)) (hR.gr (((Gr.refl w).alloc _).alloc _))
  have I0 := (Is2.new w (.int .i64 r) (.int .u64 n)).alloc (.cells #[.int .i64 0, .int .u64 0] 25)
  have I1 := Is2.new (w.alloc (.cells #[.int .i64 r, .int .u64 n] 25)) (.int .i64 0) (.int .u64 0)
  rw [World.size_alloc] at I1
  have HI0 := hide I0
  have HI1 := hide I1
  have HG := hide (show Gr w ((w.alloc (.cells #[.int .i64 r, .int .u64 n] 25)).alloc (.cells #[.int .i64 0, .int .u64 0] 25)) from ((Gr.refl w).alloc _).alloc _)
  clear I0 I1
  rcases ck_cases r n with ⟨hc, hn⟩ | ⟨hc, hd⟩
  · rw [show pvE r n = _ from by unfold pvE; rw [if_pos (Or.inl hc)]]
    rw [hc] at ck
    go_enter Tryd.func18, Tryd.ntmps18
    go_wp2_with fail
    refine ck.mono ?_; rintro e w1 ⟨rfl, hg⟩
    obtain ⟨a0, a1, -, -⟩ := (HI0.out.gr hg).c
    obtain ⟨b0, b1, f0, f1⟩ := (HI1.out.gr hg).c
    have hz := (HI1.out.gr hg).lt
    have hG := hide (HG.out.trans hg)
    have J := hide (HI1.out.gr hg)
    clear ck hg
    go_wp2
    (try simp only [Exit.inBlock, Exit.then])
    refine bodyPost_ret (res_key2 rfl _ _ (w.heap.size + 1) _ _ _ rfl rfl ?_) rfl ⟨rfl, ?_⟩
    · repeat (first | exact J.out.set _ _ | exact (J.out.alloc _).set _ _ | apply Is2.alloc)
    · repeat (first | exact hG.out | (refine Gr.set ?_ _ _ _ (by omega)) | apply Gr.alloc)
  · rcases hd with rfl | ⟨rfl, rfl⟩ | ⟨rfl, rfl⟩
    · by_cases hm : n = 0
      · subst hm
        rw [show pvE 2 0 = (1, 0, true) from by unfold pvE; rw [if_neg (by rw [hc]; decide), if_neg (by decide), if_pos rfl]]
        rw [hc] at ck
        go_enter Tryd.func18, Tryd.ntmps18
        go_wp2_with fail
        refine ck.mono ?_; rintro e w1 ⟨rfl, hg⟩
        obtain ⟨a0, a1, -, -⟩ := (HI0.out.gr hg).c
        obtain ⟨b0, b1, f0, f1⟩ := (HI1.out.gr hg).c
        have hz := (HI1.out.gr hg).lt
        have hG := hide (HG.out.trans hg)
        have J := hide (HI1.out.gr hg)
        clear ck hg
        go_wp2
        (try simp only [Exit.inBlock, Exit.then])
        refine bodyPost_ret (res_key2 rfl _ _ (w.heap.size + 1) _ _ _ rfl rfl ?_) rfl ⟨rfl, ?_⟩
        · repeat (first | exact J.out.set _ _ | exact (J.out.alloc _).set _ _ | apply Is2.alloc)
        · repeat (first | exact hG.out | (refine Gr.set ?_ _ _ _ (by omega)) | apply Gr.alloc)
      · have hm' : (n == 0) = false := by simp [hm]
        have hq : 0 ≤ n - 1 := by omega
        rw [show pvE 2 n = (2, n - 1, true) from by unfold pvE; rw [if_neg (by rw [hc]; decide), if_neg (by decide), if_neg hm]]
        rw [hc] at ck
        go_enter Tryd.func18, Tryd.ntmps18
        go_wp2_with fail
        refine ck.mono ?_; rintro e w1 ⟨rfl, hg⟩
        obtain ⟨a0, a1, -, -⟩ := (HI0.out.gr hg).c
        obtain ⟨b0, b1, f0, f1⟩ := (HI1.out.gr hg).c
        have hz := (HI1.out.gr hg).lt
        have hG := hide (HG.out.trans hg)
        have J := hide (HI1.out.gr hg)
        clear ck hg
        go_wp2
        (try simp only [Exit.inBlock, Exit.then])
        refine bodyPost_ret (res_key2 rfl _ _ (w.heap.size + 1) _ _ _ rfl rfl ?_) rfl ⟨rfl, ?_⟩
        · repeat (first | exact J.out.set _ _ | exact (J.out.alloc _).set _ _ | apply Is2.alloc)
        · repeat (first | exact hG.out | (refine Gr.set ?_ _ _ _ (by omega)) | apply Gr.alloc)
    · rw [show pvE 1 0 = (0, 0, false) from by unfold pvE; rw [if_pos (Or.inr rfl)]]
      rw [hc] at ck
      go_enter Tryd.func18, Tryd.ntmps18
      go_wp2_with fail
      refine ck.mono ?_; rintro e w1 ⟨rfl, hg⟩
      obtain ⟨a0, a1, -, -⟩ := (HI0.out.gr hg).c
      obtain ⟨b0, b1, f0, f1⟩ := (HI1.out.gr hg).c
      have hz := (HI1.out.gr hg).lt
      have hG := hide (HG.out.trans hg)
      have J := hide (HI1.out.gr hg)
      clear ck hg
      go_wp2
      (try simp only [Exit.inBlock, Exit.then])
      refine bodyPost_ret (res_key2 rfl _ _ (w.heap.size + 1) _ _ _ rfl rfl ?_) rfl ⟨rfl, ?_⟩
      · repeat (first | exact J.out.set _ _ | exact (J.out.alloc _).set _ _ | apply Is2.alloc)
      · repeat (first | exact hG.out | (refine Gr.set ?_ _ _ _ (by omega)) | apply Gr.alloc)
    · rw [show pvE 3 0 = (2, 18446744073709551615, true) from by unfold pvE; rw [if_neg (by rw [hc]; decide), if_pos rfl]]
      rw [hc] at ck
      go_enter Tryd.func18, Tryd.ntmps18
      go_wp2_with fail
      refine ck.mono ?_; rintro e w1 ⟨rfl, hg⟩
      obtain ⟨a0, a1, -, -⟩ := (HI0.out.gr hg).c
      obtain ⟨b0, b1, f0, f1⟩ := (HI1.out.gr hg).c
      have hz := (HI1.out.gr hg).lt
      have hG := hide (HG.out.trans hg)
      have J := hide (HI1.out.gr hg)
      clear ck hg
      go_wp2
      (try simp only [Exit.inBlock, Exit.then])
      refine bodyPost_ret (res_key2 rfl _ _ (w.heap.size + 1) _ _ _ rfl rfl ?_) rfl ⟨rfl, ?_⟩
      · repeat (first | exact J.out.set _ _ | exact (J.out.alloc _).set _ _ | apply Is2.alloc)
      · repeat (first | exact hG.out | (refine Gr.set ?_ _ _ _ (by omega)) | apply Gr.alloc)

set_option maxHeartbeats 2000000 in
theorem rNext_any (r n : Int) (h0 : 0 ≤ n) (h1 : n < 18446744073709551616) (w : World) :
    Calls Tryd.prog 17 #[(.agg #[.int .i64 (r), .int .u64 (n)])] w fun e w' => e = .returned (keyB (nxE r n)) ∧ Gr w w' := by
  have ck := rCheck_any r n ((w.alloc (.cells #[.int .i64 r, .int .u64 n] 25)).alloc (.cells #[.int .i64 0, .int .u64 0] 25))
  have I0 := (Is2.new w (.int .i64 r) (.int .u64 n)).alloc (.cells #[.int .i64 0, .int .u64 0] 25)
  have I1 := Is2.new (w.alloc (.cells #[.int .i64 r, .int .u64 n] 25)) (.int .i64 0) (.int .u64 0)
  rw [World.size_alloc] at I1
  have HI0 := hide I0
  have HI1 := hide I1
  have HG := hide (show Gr w ((w.alloc (.cells #[.int .i64 r, .int .u64 n] 25)).alloc (.cells #[.int .i64 0, .int .u64 0] 25)) from ((Gr.refl w).alloc _).alloc _)
  clear I0 I1
  rcases ck_cases r n with ⟨hc, hn⟩ | ⟨hc, hd⟩
  · rw [show nxE r n = _ from by unfold nxE; rw [if_pos (Or.inl hc)]]
    rw [hc] at ck
    go_enter Tryd.func17, Tryd.ntmps17
    go_wp2_with fail
    refine ck.mono ?_; rintro e w1 ⟨rfl, hg⟩
    obtain ⟨a0, a1, -, -⟩ := (HI0.out.gr hg).c
    obtain ⟨b0, b1, f0, f1⟩ := (HI1.out.gr hg).c
    have hz := (HI1.out.gr hg).lt
    have hG := hide (HG.out.trans hg)
    have J := hide (HI1.out.gr hg)
    clear ck hg
    go_wp2
    (try simp only [Exit.inBlock, Exit.then])
    refine bodyPost_ret (res_key2 rfl _ _ (w.heap.size + 1) _ _ _ rfl rfl ?_) rfl ⟨rfl, ?_⟩
    · repeat (first | exact J.out.set _ _ | exact (J.out.alloc _).set _ _ | apply Is2.alloc)
    · repeat (first | exact hG.out | (refine Gr.set ?_ _ _ _ (by omega)) | apply Gr.alloc)
  · rcases hd with rfl | ⟨rfl, rfl⟩ | ⟨rfl, rfl⟩
    · by_cases hm : n = 18446744073709551615
      · subst hm
        rw [show nxE 2 18446744073709551615 = (3, 0, true) from by unfold nxE; rw [if_neg (by rw [hc]; decide), if_neg (by decide), if_pos rfl]]
        rw [hc] at ck
        go_enter Tryd.func17, Tryd.ntmps17
        go_wp2_with fail
        refine ck.mono ?_; rintro e w1 ⟨rfl, hg⟩
        obtain ⟨a0, a1, -, -⟩ := (HI0.out.gr hg).c
        obtain ⟨b0, b1, f0, f1⟩ := (HI1.out.gr hg).c
        have hz := (HI1.out.gr hg).lt
        have hG := hide (HG.out.trans hg)
        have J := hide (HI1.out.gr hg)
        clear ck hg
        go_wp2
        (try simp only [Exit.inBlock, Exit.then])
        refine bodyPost_ret (res_key2 rfl _ _ (w.heap.size + 1) _ _ _ rfl rfl ?_) rfl ⟨rfl, ?_⟩
        · repeat (first | exact J.out.set _ _ | exact (J.out.alloc _).set _ _ | apply Is2.alloc)
        · repeat (first | exact hG.out | (refine Gr.set ?_ _ _ _ (by omega)) | apply Gr.alloc)
      · have hm' : (n == 18446744073709551615) = false := by simp [hm]
        have hq : n + 1 < 18446744073709551616 := by omega
        rw [show nxE 2 n = (2, n + 1, true) from by unfold nxE; rw [if_neg (by rw [hc]; decide), if_neg (by decide), if_neg hm]]
        rw [hc] at ck
        go_enter Tryd.func17, Tryd.ntmps17
        go_wp2_with fail
        refine ck.mono ?_; rintro e w1 ⟨rfl, hg⟩
        obtain ⟨a0, a1, -, -⟩ := (HI0.out.gr hg).c
        obtain ⟨b0, b1, f0, f1⟩ := (HI1.out.gr hg).c
        have hz := (HI1.out.gr hg).lt
        have hG := hide (HG.out.trans hg)
        have J := hide (HI1.out.gr hg)
        clear ck hg
        go_wp2
        (try simp only [Exit.inBlock, Exit.then])
        refine bodyPost_ret (res_key2 rfl _ _ (w.heap.size + 1) _ _ _ rfl rfl ?_) rfl ⟨rfl, ?_⟩
        · repeat (first | exact J.out.set _ _ | exact (J.out.alloc _).set _ _ | apply Is2.alloc)
        · repeat (first | exact hG.out | (refine Gr.set ?_ _ _ _ (by omega)) | apply Gr.alloc)
    · rw [show nxE 1 0 = (2, 0, true) from by unfold nxE; rw [if_neg (by rw [hc]; decide), if_pos rfl]]
      rw [hc] at ck
      go_enter Tryd.func17, Tryd.ntmps17
      go_wp2_with fail
      refine ck.mono ?_; rintro e w1 ⟨rfl, hg⟩
      obtain ⟨a0, a1, -, -⟩ := (HI0.out.gr hg).c
      obtain ⟨b0, b1, f0, f1⟩ := (HI1.out.gr hg).c
      have hz := (HI1.out.gr hg).lt
      have hG := hide (HG.out.trans hg)
      have J := hide (HI1.out.gr hg)
      clear ck hg
      go_wp2
      (try simp only [Exit.inBlock, Exit.then])
      refine bodyPost_ret (res_key2 rfl _ _ (w.heap.size + 1) _ _ _ rfl rfl ?_) rfl ⟨rfl, ?_⟩
      · repeat (first | exact J.out.set _ _ | exact (J.out.alloc _).set _ _ | apply Is2.alloc)
      · repeat (first | exact hG.out | (refine Gr.set ?_ _ _ _ (by omega)) | apply Gr.alloc)
    · rw [show nxE 3 0 = (0, 0, false) from by unfold nxE; rw [if_pos (Or.inr rfl)]]
      rw [hc] at ck
      go_enter Tryd.func17, Tryd.ntmps17
      go_wp2_with fail
      refine ck.mono ?_; rintro e w1 ⟨rfl, hg⟩
      obtain ⟨a0, a1, -, -⟩ := (HI0.out.gr hg).c
      obtain ⟨b0, b1, f0, f1⟩ := (HI1.out.gr hg).c
      have hz := (HI1.out.gr hg).lt
      have hG := hide (HG.out.trans hg)
      have J := hide (HI1.out.gr hg)
      clear ck hg
      go_wp2
      (try simp only [Exit.inBlock, Exit.then])
      refine bodyPost_ret (res_key2 rfl _ _ (w.heap.size + 1) _ _ _ rfl rfl ?_) rfl ⟨rfl, ?_⟩
      · repeat (first | exact J.out.set _ _ | exact (J.out.alloc _).set _ _ | apply Is2.alloc)
      · repeat (first | exact hG.out | (refine Gr.set ?_ _ _ _ (by omega)) | apply Gr.alloc)

set_option maxHeartbeats 2000000 in
theorem rPrev_any (r n : Int) (h0 : 0 ≤ n) (h1 : n < 18446744073709551616) (w : World) :
    Calls Tryd.prog 19 #[(.agg #[.int .i64 (r), .int .u64 (n)])] w fun e w' => e = .returned (keyB (pvE r n)) ∧ Gr w w' := by
  have ck := rCheck_any r n ((w.alloc (.cells #[.int .i64 r, .int .u64 n] 25)).alloc (.cells #[.int .i64 0, .int .u64 0] 25))
  have I0 := (Is2.new w (.int .i64 r) (.int .u64 n)).alloc (.cells #[.int .i64 0, .int .u64 0] 25)
  have I1 := Is2.new (w.alloc (.cells #[.int .i64 r, .int .u64 n] 25)) (.int .i64 0) (.int .u64 0)
  rw [World.size_alloc] at I1
  have HI0 := hide I0
  have HI1 := hide I1
  have HG := hide (show Gr w ((w.alloc (.cells #[.int .i64 r, .int .u64 n] 25)).alloc (.cells #[.int .i64 0, .int .u64 0] 25)) from ((Gr.refl w).alloc _).alloc _)
  clear I0 I1
  rcases ck_cases r n with ⟨hc, hn⟩ | ⟨hc, hd⟩
  · rw [show pvE r n = _ from by unfold pvE; rw [if_pos (Or.inl hc)]]
    rw [hc] at ck
    go_enter Tryd.func19, Tryd.ntmps19
    go_wp2_with fail
    refine ck.mono ?_; rintro e w1 ⟨rfl, hg⟩
    obtain ⟨a0, a1, -, -⟩ := (HI0.out.gr hg).c
    obtain ⟨b0, b1, f0, f1⟩ := (HI1.out.gr hg).c
    have hz := (HI1.out.gr hg).lt
    have hG := hide (HG.out.trans hg)
    have J := hide (HI1.out.gr hg)
    clear ck hg
    go_wp2
    (try simp only [Exit.inBlock, Exit.then])
    refine bodyPost_ret (res_key2 rfl _ _ (w.heap.size + 1) _ _ _ rfl rfl ?_) rfl ⟨rfl, ?_⟩
    · repeat (first | exact J.out.set _ _ | exact (J.out.alloc _).set _ _ | apply Is2.alloc)
    · repeat (first | exact hG.out | (refine Gr.set ?_ _ _ _ (by omega)) | apply Gr.alloc)
  · rcases hd with rfl | ⟨rfl, rfl⟩ | ⟨rfl, rfl⟩
    · by_cases hm : n = 0
      · subst hm
        rw [show pvE 2 0 = (1, 0, true) from by unfold pvE; rw [if_neg (by rw [hc]; decide), if_neg (by decide), if_pos rfl]]
        rw [hc] at ck
        go_enter Tryd.func19, Tryd.ntmps19
        go_wp2_with fail
        refine ck.mono ?_; rintro e w1 ⟨rfl, hg⟩
        obtain ⟨a0, a1, -, -⟩ := (HI0.out.gr hg).c
        obtain ⟨b0, b1, f0, f1⟩ := (HI1.out.gr hg).c
        have hz := (HI1.out.gr hg).lt
        have hG := hide (HG.out.trans hg)
        have J := hide (HI1.out.gr hg)
        clear ck hg
        go_wp2
        (try simp only [Exit.inBlock, Exit.then])
        refine bodyPost_ret (res_key2 rfl _ _ (w.heap.size + 1) _ _ _ rfl rfl ?_) rfl ⟨rfl, ?_⟩
        · repeat (first | exact J.out.set _ _ | exact (J.out.alloc _).set _ _ | apply Is2.alloc)
        · repeat (first | exact hG.out | (refine Gr.set ?_ _ _ _ (by omega)) | apply Gr.alloc)
      · have hm' : (n == 0) = false := by simp [hm]
        have hq : 0 ≤ n - 1 := by omega
        rw [show pvE 2 n = (2, n - 1, true) from by unfold pvE; rw [if_neg (by rw [hc]; decide), if_neg (by decide), if_neg hm]]
        rw [hc] at ck
        go_enter Tryd.func19, Tryd.ntmps19
        go_wp2_with fail
        refine ck.mono ?_; rintro e w1 ⟨rfl, hg⟩
        obtain ⟨a0, a1, -, -⟩ := (HI0.out.gr hg).c
        obtain ⟨b0, b1, f0, f1⟩ := (HI1.out.gr hg).c
        have hz := (HI1.out.gr hg).lt
        have hG := hide (HG.out.trans hg)
        have J := hide (HI1.out.gr hg)
        clear ck hg
        go_wp2
        (try simp only [Exit.inBlock, Exit.then])
        refine bodyPost_ret (res_key2 rfl _ _ (w.heap.size + 1) _ _ _ rfl rfl ?_) rfl ⟨rfl, ?_⟩
        · repeat (first | exact J.out.set _ _ | exact (J.out.alloc _).set _ _ | apply Is2.alloc)
        · repeat (first | exact hG.out | (refine Gr.set ?_ _ _ _ (by omega)) | apply Gr.alloc)
    · rw [show pvE 1 0 = (0, 0, false) from by unfold pvE; rw [if_pos (Or.inr rfl)]]
      rw [hc] at ck
      go_enter Tryd.func19, Tryd.ntmps19
      go_wp2_with fail
      refine ck.mono ?_; rintro e w1 ⟨rfl, hg⟩
      obtain ⟨a0, a1, -, -⟩ := (HI0.out.gr hg).c
      obtain ⟨b0, b1, f0, f1⟩ := (HI1.out.gr hg).c
      have hz := (HI1.out.gr hg).lt
      have hG := hide (HG.out.trans hg)
      have J := hide (HI1.out.gr hg)
      clear ck hg
      go_wp2
      (try simp only [Exit.inBlock, Exit.then])
      refine bodyPost_ret (res_key2 rfl _ _ (w.heap.size + 1) _ _ _ rfl rfl ?_) rfl ⟨rfl, ?_⟩
      · repeat (first | exact J.out.set _ _ | exact (J.out.alloc _).set _ _ | apply Is2.alloc)
      · repeat (first | exact hG.out | (refine Gr.set ?_ _ _ _ (by omega)) | apply Gr.alloc)
    · rw [show pvE 3 0 = (2, 18446744073709551615, true) from by unfold pvE; rw [if_neg (by rw [hc]; decide), if_pos rfl]]
      rw [hc] at ck
      go_enter Tryd.func19, Tryd.ntmps19
      go_wp2_with fail
      refine ck.mono ?_; rintro e w1 ⟨rfl, hg⟩
      obtain ⟨a0, a1, -, -⟩ := (HI0.out.gr hg).c
      obtain ⟨b0, b1, f0, f1⟩ := (HI1.out.gr hg).c
      have hz := (HI1.out.gr hg).lt
      have hG := hide (HG.out.trans hg)
      have J := hide (HI1.out.gr hg)
      clear ck hg
      go_wp2
      (try simp only [Exit.inBlock, Exit.then])
      refine bodyPost_ret (res_key2 rfl _ _ (w.heap.size + 1) _ _ _ rfl rfl ?_) rfl ⟨rfl, ?_⟩
      · repeat (first | exact J.out.set _ _ | exact (J.out.alloc _).set _ _ | apply Is2.alloc)
      · repeat (first | exact hG.out | (refine Gr.set ?_ _ _ _ (by omega)) | apply Gr.alloc)

set_option maxHeartbeats 2000000 in
theorem kIn_any (a b r n c d : Int) (w : World) :
    Calls Tryd.prog 20 #[(.agg #[.int .i64 (a), .int .u64 (b)]), (.agg #[.int .i64 (r), .int .u64 (n)]), (.agg #[.int .i64 (c), .int .u64 (d)])] w fun e w' => e = .returned (.bool (!klt (r, n) (a, b) && !klt (c, d) (r, n))) ∧ Gr w w' := by
  have l1 := fun w => kLess_any r n a b w
  have l2 := fun w => kLess_any c d r n w
  cases e1 : klt (r, n) (a, b)
  · cases e2 : klt (c, d) (r, n) <;>
    · simp only [e1] at l1
      simp only [e2] at l2
      go_enter Tryd.func20, Tryd.ntmps20
      go_wp2_with fail
      refine (l1 _).mono ?_; rintro e w1 ⟨rfl, hg1⟩
      have J0 := (((Is2.new w (.int .i64 a) (.int .u64 b)).alloc (.cells #[.int .i64 r, .int .u64 n] 25)).alloc (.cells #[.int .i64 c, .int .u64 d] 25)).gr hg1
      have J1 := ((Is2.new (w.alloc (.cells #[.int .i64 a, .int .u64 b] 25)) (.int .i64 r) (.int .u64 n)).alloc (.cells #[.int .i64 c, .int .u64 d] 25)).gr hg1
      have J2 := (Is2.new ((w.alloc (.cells #[.int .i64 a, .int .u64 b] 25)).alloc (.cells #[.int .i64 r, .int .u64 n] 25)) (.int .i64 c) (.int .u64 d)).gr hg1
      simp only [World.size_alloc] at J1 J2
      obtain ⟨a0, a1, -, -⟩ := J0.c
      obtain ⟨b0, b1, -, -⟩ := J1.c
      obtain ⟨c0, c1, -, -⟩ := J2.c
      have HG := hide (show Gr w w1 from Gr.trans (by repeat (first | exact Gr.refl _ | apply Gr.alloc)) hg1)
      clear J0 J1 J2 hg1
      go_wp2_with fail
      refine (l2 _).mono ?_; rintro e w2 ⟨rfl, hg2⟩
      go_wp2
      go_ret
      exact ⟨rfl, HG.out.trans hg2⟩
  · simp only [e1] at l1
    go_enter Tryd.func20, Tryd.ntmps20
    go_wp2_with fail
    refine (l1 _).mono ?_; rintro e w1 ⟨rfl, hg1⟩
    go_wp2
    go_ret
    exact ⟨rfl, Gr.trans (by repeat (first | exact Gr.refl _ | apply Gr.alloc)) hg1⟩

set_option maxHeartbeats 2000000 in
theorem rIn_any (a b r n c d : Int) (w : World) :
    Calls Tryd.prog 21 #[(.agg #[.int .i64 (a), .int .u64 (b)]), (.agg #[.int .i64 (r), .int .u64 (n)]), (.agg #[.int .i64 (c), .int .u64 (d)])] w fun e w' => e = .returned (.bool (!klt (r, n) (a, b) && !klt (c, d) (r, n))) ∧ Gr w w' := by
  have l1 := fun w => rLess_any r n a b w
  have l2 := fun w => rLess_any c d r n w
  cases e1 : klt (r, n) (a, b)
  · cases e2 : klt (c, d) (r, n) <;>
    · simp only [e1] at l1
      simp only [e2] at l2
      go_enter Tryd.func21, Tryd.ntmps21
      go_wp2_with fail
      refine (l1 _).mono ?_; rintro e w1 ⟨rfl, hg1⟩
      have J0 := (((Is2.new w (.int .i64 a) (.int .u64 b)).alloc (.cells #[.int .i64 r, .int .u64 n] 25)).alloc (.cells #[.int .i64 c, .int .u64 d] 25)).gr hg1
      have J1 := ((Is2.new (w.alloc (.cells #[.int .i64 a, .int .u64 b] 25)) (.int .i64 r) (.int .u64 n)).alloc (.cells #[.int .i64 c, .int .u64 d] 25)).gr hg1
      have J2 := (Is2.new ((w.alloc (.cells #[.int .i64 a, .int .u64 b] 25)).alloc (.cells #[.int .i64 r, .int .u64 n] 25)) (.int .i64 c) (.int .u64 d)).gr hg1
      simp only [World.size_alloc] at J1 J2
      obtain ⟨a0, a1, -, -⟩ := J0.c
      obtain ⟨b0, b1, -, -⟩ := J1.c
      obtain ⟨c0, c1, -, -⟩ := J2.c
      have HG := hide (show Gr w w1 from Gr.trans (by repeat (first | exact Gr.refl _ | apply Gr.alloc)) hg1)
      clear J0 J1 J2 hg1
      go_wp2_with fail
      refine (l2 _).mono ?_; rintro e w2 ⟨rfl, hg2⟩
      go_wp2
      go_ret
      exact ⟨rfl, HG.out.trans hg2⟩
  · simp only [e1] at l1
    go_enter Tryd.func21, Tryd.ntmps21
    go_wp2_with fail
    refine (l1 _).mono ?_; rintro e w1 ⟨rfl, hg1⟩
    go_wp2
    go_ret
    exact ⟨rfl, Gr.trans (by repeat (first | exact Gr.refl _ | apply Gr.alloc)) hg1⟩

end Go.Proofs.YtidgkaephikjaaaDoor
