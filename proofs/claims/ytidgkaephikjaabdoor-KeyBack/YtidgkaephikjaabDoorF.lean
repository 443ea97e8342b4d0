/- Package key: Next, Prev, In, and the document's own. -/
import Derived.Test.YtidgkaephikjaabDoorE
import Derived.Handy
import Derived.Laws.ResultCell
namespace Go.Proofs.YtidgkaephikjaabDoor
open Go.RowKit

theorem Is2.set {w : World} {b : Nat} {x y : Value} (h : Is2 w b x y) (u v : Value) : Is2 ((w.setCell ⟨b, 0, none⟩ u).setCell ⟨b, 1, none⟩ v) b u v := by
  unfold Is2 at *
  rw [Sort.setCell_eq, Sort.setCell_eq]
  simp only [Sort.mapBlock, Array.getElem?_modify, if_true, h, Option.map_some, Sort.onCells]
  rfl

theorem res_key2 {fn : Func} {p u : Tmp} (h : fn.results = #[.cell p 25, .tmp u]) (tmps : Array Value) (W : World) (b : Nat) (x y : Int) (v : Value) (hp : tmps.getD p undef = .pointer (some ⟨b, 0, none⟩)) (hu : tmps.getD u undef = v) (I : Is2 W b (.int .i64 x) (.int .u64 y)) :
    (results fn tmps).run Tryd.prog W = .ok (.tuple #[(.agg #[.int .i64 (x), .int .u64 (y)]), v]) W := by
  obtain ⟨a0, a1, -, -⟩ := I.c
  have q1 := Tryd.isAgg25
  have q2 := Tryd.sizeOf25
  rw [results_cell_tmp h, hp, hu]
  simp [go_sem, loadVar, q1, q2, a0, a1]


set_option maxHeartbeats 2000000 in
theorem kNext_any (r n : Int) (h0 : 0 ≤ n) (h1 : n < 18446744073709551616) (w : World) (hR : Ranks w) :
    Calls Tryd.prog 15 #[(.agg #[.int .i64 (r), .int .u64 (n)])] w fun e w' => e = .returned (keyB (nxE r n)) ∧ Gr w w' := by
  have ck := kCheck_any r n ((w.alloc (.cells #[.int .i64 r, .int .u64 n] 25)).alloc (.cells #[.int .i64 0, .int .u64 0] 25)) (hR.gr (((Gr.refl w).alloc _).alloc _))
  have I0 := (Is2.new w (.int .i64 r) (.int .u64 n)).alloc (.cells #[.int .i64 0, .int .u64 0] 25)
  have I1 := Is2.new (w.alloc (.cells #[.int .i64 r, .int .u64 n] 25)) (.int .i64 0) (.int .u64 0)
  rw [World.size_alloc] at I1
  have HI0 := hide I0
  have HI1 := hide I1
  have HG := hide (show Gr w ((w.alloc (.cells #[.int .i64 r, .int .u64 n] 25)).alloc (.cells #[.int .i64 0, .int .u64 0] 25)) from ((Gr.refl w).alloc _).alloc _)
  clear I0 I1
  rcases ck_cases r n with ⟨hc, hn⟩ | ⟨hc, hd⟩
  · rw [show nxE r n = _ from by unfold nxE; rw [if_pos (Or.inl hc)]]
    rw [hc] at ck
    go_enter Tryd.func15, Tryd.ntmps15
    go_wp2_with fail
    refine ck.mono ?_; rintro e w1 ⟨rfl, hg⟩
    obtain ⟨a0, a1, -, -⟩ := (HI0.out.gr hg).c
    obtain ⟨b0, b1, f0, f1⟩ := (HI1.out.gr hg).c
    have hz := (HI1.out.gr hg).lt
    have hG := hide (HG.out.trans hg)
    have J := hide (HI1.out.gr hg)
    clear ck hg
    go_wp2
    (try simp only [Exit.inBlock, Exit.then])
    refine bodyPost_ret (res_key2 rfl _ _ (w.heap.size + 1) _ _ _ rfl rfl ?_) rfl ⟨rfl, ?_⟩
    · repeat (first | exact J.out.set _ _ | exact (J.out.alloc _).set _ _ | apply Is2.alloc)
    · repeat (first | exact hG.out | (refine Gr.set ?_ _ _ _ (by omega)) | apply Gr.alloc)
  · rcases hd with rfl | ⟨rfl, rfl⟩ | ⟨rfl, rfl⟩
    · by_cases hm : n = 18446744073709551615
      · subst hm
        rw [show nxE 2 18446744073709551615 = (3, 0, true) from by unfold nxE; rw [if_neg (by rw [hc]; decide), if_neg (by decide), if_pos rfl]]
        rw [hc] at ck
        go_enter Tryd.func15, Tryd.ntmps15
        go_wp2_with fail
        refine ck.mono ?_; rintro e w1 ⟨rfl, hg⟩
        obtain ⟨a0, a1, -, -⟩ := (HI0.out.gr hg).c
        obtain ⟨b0, b1, f0, f1⟩ := (HI1.out.gr hg).c
        have hz := (HI1.out.gr hg).lt
        have hG := hide (HG.out.trans hg)
        have J := hide (HI1.out.gr hg)
        clear ck hg
        go_wp2
        (try simp only [Exit.inBlock, Exit.then])
        refine bodyPost_ret (res_key2 rfl _ _ (w.heap.size + 1) _ _ _ rfl rfl ?_) rfl ⟨rfl, ?_⟩
        · repeat (first | exact J.out.set _ _ | exact (J.out.alloc _).set _ _ | apply Is2.alloc)
        · repeat (first | exact hG.out | (refine Gr.set ?_ _ _ _ (by omega)) | apply Gr.alloc)
      · have hm' : (n == 18446744073709551615) = false := by simp [hm]
        have hq : n + 1 < 18446744073709551616 := by omega
        rw [show nxE 2 n = (2, n + 1, true) from by unfold nxE; rw [if_neg (by rw [hc]; decide), if_neg (by decide), if_neg hm]]
        rw [hc] at ck
        go_enter Tryd.func15, Tryd.ntmps15
        go_wp2_with fail
        refine ck.mono ?_; rintro e w1 ⟨rfl, hg⟩
        obtain ⟨a0, a1, -, -⟩ := (HI0.out.gr hg).c
        obtain ⟨b0, b1, f0, f1⟩ := (HI1.out.gr hg).c
        have hz := (HI1.out.gr hg).lt
        have hG := hide (HG.out.trans hg)
        have J := hide (HI1.out.gr hg)
        clear ck hg
        go_wp2
        (try simp only [Exit.inBlock, Exit.then])
        refine bodyPost_ret (res_key2 rfl _ _ (w.heap.size + 1) _ _ _ rfl rfl ?_) rfl ⟨rfl, ?_⟩
        · repeat (first | exact J.out.set _ _ | exact (J.out.alloc _).set _ _ | apply Is2.alloc)
        · repeat (first | exact hG.out | (refine Gr.set ?_ _ _ _ (by omega)) | apply Gr.alloc)
    · rw [show nxE 1 0 = (2, 0, true) from by unfold nxE; rw [if_neg (by rw [hc]; decide), if_pos rfl]]
      rw [hc] at ck
      go_enter Tryd.func15, Tryd.ntmps15
      go_wp2_with fail
      refine ck.mono ?_; rintro e w1 ⟨rfl, hg⟩
      obtain ⟨a0, a1, -, -⟩ := (HI0.out.gr hg).c
      obtain ⟨b0, b1, f0, f1⟩ := (HI1.out.gr hg).c
      have hz := (HI1.out.gr hg).lt
      have hG := hide (HG.out.trans hg)
      have J := hide (HI1.out.gr hg)
      clear ck hg
      go_wp2
      (try simp only [Exit.inBlock, Exit.then])
      refine bodyPost_ret (res_key2 rfl _ _ (w.heap.size + 1) _ _ _ rfl rfl ?_) rfl ⟨rfl, ?_⟩
      · repeat (first | exact J.out.set _ _ | exact (J.out.alloc _).set _ _ | apply Is2.alloc)
      · repeat (first | exact hG.out | (refine Gr.set ?_ _ _ _ (by omega)) | apply Gr.alloc)
    · rw [show nxE 3 0 = (0, 0, false) from by unfold nxE; rw [if_pos (Or.inr rfl)]]
      rw [hc] at ck
      go_enter Tryd.func15, Tryd.ntmps15
      go_wp2_with fail
      refine ck.mono ?_; rintro e w1 ⟨rfl, hg⟩
      obtain ⟨a0, a1, -, -⟩ := (HI0.out.gr hg).c
      obtain ⟨b0, b1, f0, f1⟩ := (HI1.out.gr hg).c
      have hz := (HI1.out.gr hg).lt
      have hG := hide (HG.out.trans hg)
      have J := hide (HI1.out.gr hg)
      clear ck hg
      go_wp2
      (try simp only [Exit.inBlock, Exit.then])
      refine bodyPost_ret (res_key2 rfl _ _ (w.heap.size + 1) _ _ _ rfl rfl ?_) rfl ⟨rfl, ?_⟩
      · repeat (first | exact J.out.set _ _ | exact (J.out.alloc _).set _ _ | apply Is2.alloc)
      · repeat (first | exact hG.out | (refine Gr.set ?_ _ _ _ (by omega)) | apply Gr.alloc)











end Go.Proofs.YtidgkaephikjaabDoor
