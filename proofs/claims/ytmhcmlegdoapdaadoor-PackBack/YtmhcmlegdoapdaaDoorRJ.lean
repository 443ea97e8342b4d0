/- Package pack: references, read of any bytes. -/
import Derived.Test.YtmhcmlegdoapdaaDoorRI
namespace Go.Proofs.YtmhcmlegdoapdaaDoor
open Go.RowKit

/-- A reference. -/
def pref (l : List Int) : PR (Int × (Int × Int) × (Int × Int)) := match pwhole l with
  | .bad i e => .bad i e
  | .ok i n => match pkey (l.drop n) with
    | .bad j e => .bad (n + j) e
    | .ok k n2 => match pvec ((l.drop n).drop n2) with
      | .bad j e => .bad (n + n2 + j) e
      | .ok v n3 => .ok (i, k, v) (n + n2 + n3)
theorem ref_info : (Tryd.prog.info? 32).map (·.size) = some 5 := by kernel_rfl
theorem ref_results (W : World) (g : Nat) (cs : Array Value) (h : IsB W g cs 32) (hs : cs.size = 5) (T : Array Value) (hp : T.getD 2 undef = .pointer (some ⟨g, 0, none⟩)) : (results Tryd.f71 T).run Tryd.prog W = .ok (.agg cs) W :=
  results_cell_row rfl T W g 32 cs (0, 0) _ hp h Tryd.underlying32 rfl (by rw [hs]; exact ref_info)
theorem putCells_left {sb : Nat} {R b : Nat} {l : List Int} {at' : Int} {fl : Value} (hR : R ≠ b) (hs : sb ≠ b) (vs : List Value) : ∀ (w : World) (j : Nat), Lft w R sb l at' fl → Lft (putCells w b j vs) R sb l at' fl := by
  induction vs with
  | nil => intro w j h; exact h
  | cons v vs ih => intro w j h; exact ih _ (j + 1) (h.set (a := ⟨b, j, none⟩) hR hs v)

set_option maxHeartbeats 4000000 in
set_option maxRecDepth 100000 in
theorem ref_any {sb : Nat} (R : Nat) (l : List Int) (at' : Int) (fl : Value) (w : World) (h : Lft w R sb l at' fl) (hRk : Ranks w) (hRg : R ≠ 0) (hsb : sb < w.heap.size) :
    Calls Tryd.prog 71 #[.pointer (some ⟨R, 0, none⟩)] w fun e w' => Post w R sb l at' fl (fun x : Int × (Int × Int) × (Int × Int) => .agg #[.int .i64 x.1, .int .i64 x.2.1.1, .int .u64 x.2.1.2, .int .i64 x.2.2.1, .int .u64 x.2.2.2]) (pref l) e w' := by
  have mixed : Tryd.prog.follows .mixedOrders = true := by kernel_rfl
  have hRl := h.lt
  have I0 := IsB.new w #[.int .i64 0, .int .i64 0, .int .u64 0, .int .i64 0, .int .u64 0] 32
  have HG0 := hide (show Gr w (w.alloc (.cells #[.int .i64 0, .int .i64 0, .int .u64 0, .int .i64 0, .int .u64 0] 32)) from (Gr.refl w).alloc _)
  have h1 := hide (whole_any R l at' fl _ (h.gr HG0.out))
  have HP0 : pref l = match pwhole l with
    | .bad i e => .bad i e
    | .ok i n => match pkey (l.drop n) with
      | .bad j e => .bad (n + j) e
      | .ok k n2 => match pvec ((l.drop n).drop n2) with
        | .bad j e => .bad (n + n2 + j) e
        | .ok v n3 => .ok (i, k, v) (n + n2 + n3) := rfl
  have HRK := hide hRk
  replace I0 := hide I0
  have hl0 := I0.out.lt
  clear h hRk
  rcases hp : pwhole l with ⟨id, n⟩ | ⟨i, er⟩
  · rw [hp] at HP0
    simp only [] at HP0
    replace hp := hide hp
    rcases hq : pkey (l.drop n) with ⟨⟨k1, k2⟩, n2⟩ | ⟨i, er⟩
    · rw [hq] at HP0
      simp only [] at HP0
      replace hq := hide hq
      rcases hv : pvec ((l.drop n).drop n2) with ⟨⟨v1, v2⟩, n3⟩ | ⟨i, er⟩
      · rw [hv] at HP0
        replace hv := hide hv
        replace HP0 := hide HP0
        go_enter Tryd.func71, Tryd.ntmps71
        go_wp2_with fail
        generalize w.alloc (.cells #[.int .i64 0, .int .i64 0, .int .u64 0, .int .i64 0, .int .u64 0] 32) = W0 at h1 I0 HG0 hl0 ⊢
        refine h1.out.mono ?_
        intro e w1 hE
        unfold Post at hE
        rw [hp.out] at hE
        obtain ⟨⟨rfl, hn, hl1⟩, hg⟩ := hE
        have hs1 := hg.size
        have HA := hide (I0.out.grown hg (by simp; omega))
        have HG1 := hide (grown_trans (grown_of_gr HG0.out (some R)) hg)
        have h2 := hide (key_any R (l.drop n) (at' + (n : Int)) fl w1 hl1 (HRK.out.grown HG1.out hRg) hRg (by omega))
        clear h1 hl1 hg I0
        go_wp2_with fail
        refine h2.out.mono ?_
        intro e w2 hE
        unfold Post at hE
        rw [hq.out] at hE
        obtain ⟨⟨rfl, hn2, hl2⟩, hg2⟩ := hE
        have hs2 := hg2.size
        replace HA := hide ((HA.out.grown hg2 (by simp; omega)).alloc (.cells #[.int .i64 k1, .int .u64 k2] 30))
        have HKk := hide (IsB.new w2 #[.int .i64 k1, .int .u64 k2] 30)
        have HG2 := hide (grown_trans (grown_trans HG1.out hg2) (grown_of_gr ((Gr.refl w2).alloc (.cells #[.int .i64 k1, .int .u64 k2] 30)) _))
        have HL2 := hide (hl2.gr ((Gr.refl w2).alloc (.cells #[.int .i64 k1, .int .u64 k2] 30)))
        have hs3 : w2.heap.size < (w2.alloc (.cells #[.int .i64 k1, .int .u64 k2] 30)).heap.size := by rw [World.size_alloc]; omega
        clear h2 hl2 hg2 HG1 HRK
        go_wp2
        generalize hKB : w2.heap.size = KB at HKk hs2 hs3 ⊢
        generalize w2.alloc (.cells #[.int .i64 k1, .int .u64 k2] 30) = W3 at HA HKk HG2 HL2 hs3 ⊢
        clear hKB
        refine wp_region_held_drew (S := (fun w' => w'.cell? ⟨KB, 0, none⟩ = some (.int .i64 k1) ∧ w'.cell? ⟨KB, 1, none⟩ = some (.int .u64 k2))) (by assumption) ⟨HKk.out.cell 0, HKk.out.cell 1⟩ (fun hHeld => ?_)
        refine take_yes (v := ?_) 0 (some 9) rfl rfl (by kernel_rfl) (by kernel_rfl) (by kernel_rfl) (fun _ _ _ h => h) (by rfl) ?_ (by assumption) ?_
        rotate_left
        · intro w' hSw
          go_simp
          try with_reducible rfl
        try simp only [Act.put, List.setIfInBounds_toArray, List.set_cons_zero, List.set_cons_succ]
        refine take_yes (v := ?_) 1 (some 10) rfl rfl (by kernel_rfl) (by kernel_rfl) (by kernel_rfl) (fun _ _ _ h => h) (by rfl) ?_ (by assumption) ?_
        rotate_left
        · intro w' hSw
          have d0 := hSw.1
          have d1 := hSw.2
          go_simp
          try with_reducible rfl
        try simp only [Act.put, List.setIfInBounds_toArray, List.set_cons_zero, List.set_cons_succ]
        refine take_yes (v := ?_) 2 (some 11) rfl rfl (by kernel_rfl) (by kernel_rfl) (by kernel_rfl) (fun _ _ _ h => h) (by rfl) ?_ (by assumption) ?_
        rotate_left
        · intro w' hSw
          go_simp
          try with_reducible rfl
        try simp only [Act.put, List.setIfInBounds_toArray, List.set_cons_zero, List.set_cons_succ]
        refine wpAnyH_ready (rs := [3]) (by kernel_rfl) (by simp) ?_
        refine AllReadyH.cons rfl (fun K hK => ?_) AllReadyH.nil
        go_simp
        go_at_call 69
        refine (vector_any R ((l.drop n).drop n2) (at' + (n : Int) + (n2 : Int)) fl _ HL2.out.drew (show sb < W3.heap.size by omega)).mono ?_
        intro e w4 hE
        unfold Post at hE
        rw [hv.out] at hE
        obtain ⟨⟨rfl, hn3, hl4⟩, hg4⟩ := hE
        have hg4' := grown_trans (grown_of_gr ((Gr.refl W3).drew) (some R)) hg4
        have HK4 := hide (HKk.out.grown hg4' (by simp; omega))
        have HA4 := hide (HA.out.grown hg4' (by simp; omega))
        have HL4 := hide hl4
        have HG4 := hide (grown_trans HG2.out hg4')
        clear hl4 hg4 hg4' HKk HA HL2 HG2
        first | refine hK.out _ _ ?_ (fun hHeld => ?_) | (go_wp2_with fail; refine hK.out _ _ ?_ (fun hHeld => ?_))
        · exact ⟨HK4.out.cell 0, HK4.out.cell 1⟩
        clear hK K
        refine take_yes (v := ?_) 4 (some 13) rfl rfl (by kernel_rfl) (by kernel_rfl) (by kernel_rfl) (fun _ _ _ h => h) (by rfl) ?_ (by assumption) ?_
        rotate_left
        · intro w' hSw
          have d0 := hSw.1
          have d1 := hSw.2
          go_simp
          try with_reducible rfl
        try simp only [Act.put, List.setIfInBounds_toArray, List.set_cons_zero, List.set_cons_succ]
        have a0 : w4.cell? ⟨w.heap.size, 0, none⟩ = some (.int .i64 0) := HA4.out.cell 0
        have a1 : w4.cell? ⟨w.heap.size, 1, none⟩ = some (.int .i64 0) := HA4.out.cell 1
        have a2 : w4.cell? ⟨w.heap.size, 2, none⟩ = some (.int .u64 0) := HA4.out.cell 2
        have a3 : w4.cell? ⟨w.heap.size, 3, none⟩ = some (.int .i64 0) := HA4.out.cell 3
        have a4 : w4.cell? ⟨w.heap.size, 4, none⟩ = some (.int .u64 0) := HA4.out.cell 4
        have f0 := HA4.out.free 0
        have f1 := HA4.out.free 1
        have f2 := HA4.out.free 2
        have f3 := HA4.out.free 3
        have f4 := HA4.out.free 4
        have HK5 := hide (putCells_other (b := w.heap.size) (show KB ≠ w.heap.size by omega) [.int .i64 id, .int .i64 k1, .int .u64 k2, .int .i64 v1, .int .u64 v2] w4 0 HK4.out)
        refine wpAnyH_ready (rs := [5]) (by kernel_rfl) (by simp) ?_
        refine AllReadyH.cons rfl (fun K hK => ?_) AllReadyH.nil
        go_simp
        refine hK.out _ _ ?_ (fun hHeld => ?_)
        · exact ⟨HK5.out.cell 0, HK5.out.cell 1⟩
        clear hK K
        try simp only [Act.put, List.setIfInBounds_toArray]
        refine wpAnyH_done (by kernel_rfl) ?_ _
        clear hHeld a0 a1 a2 a3 a4 f0 f1 f2 f3 f4
        have HA5 := hide (putCells_is (cs := [.int .i64 0, .int .i64 0, .int .u64 0, .int .i64 0, .int .u64 0]) HA4.out [.int .i64 id, .int .i64 k1, .int .u64 k2, .int .i64 v1, .int .u64 v2] rfl)
        have HL5 := hide (putCells_left (b := w.heap.size) (by omega) (by omega) [.int .i64 id, .int .i64 k1, .int .u64 k2, .int .i64 v1, .int .u64 v2] w4 0 HL4.out)
        have HG5 := hide (putCells_grown (b := w.heap.size) (Nat.le_refl _) [.int .i64 id, .int .i64 k1, .int .u64 k2, .int .i64 v1, .int .u64 v2] w4 0 HG4.out)
        have hW : ((((w4.setCell ⟨w.heap.size, 0, none⟩ (.int .i64 id)).setCell ⟨w.heap.size, 1, none⟩ (.int .i64 k1)).setCell ⟨w.heap.size, 2, none⟩ (.int .u64 k2)).setCell ⟨w.heap.size, 3, none⟩ (.int .i64 v1)).setCell ⟨w.heap.size, 4, none⟩ (.int .u64 v2) = putCells w4 w.heap.size 0 [.int .i64 id, .int .i64 k1, .int .u64 k2, .int .i64 v1, .int .u64 v2] := rfl
        rw [hW]
        clear hW HK5 HK4 HA4 HL4 HG4
        generalize putCells w4 w.heap.size 0 [.int .i64 id, .int .i64 k1, .int .u64 k2, .int .i64 v1, .int .u64 v2] = w5 at HA5 HL5 HG5 ⊢
        go_wp2
        refine bodyPost_ret (ref_results _ w.heap.size _ HA5.out rfl _ rfl) rfl ?_
        refine Post.okI (id, (k1, k2), (v1, v2)) (n + n2 + n3) HP0.out rfl (by rw [List.length_drop] at hn2; rw [List.length_drop, List.length_drop] at hn3; omega) ?_ HG5.out
        have h3 := HL5.out
        rw [List.drop_drop, List.drop_drop, ← Nat.add_assoc] at h3
        rw [Int.natCast_add, Int.natCast_add, ← Int.add_assoc, ← Int.add_assoc]
        exact h3
      · rw [hv] at HP0
        replace hv := hide hv
        replace HP0 := hide HP0
        go_enter Tryd.func71, Tryd.ntmps71
        go_wp2_with fail
        generalize w.alloc (.cells #[.int .i64 0, .int .i64 0, .int .u64 0, .int .i64 0, .int .u64 0] 32) = W0 at h1 I0 HG0 hl0 ⊢
        refine h1.out.mono ?_
        intro e w1 hE
        unfold Post at hE
        rw [hp.out] at hE
        obtain ⟨⟨rfl, hn, hl1⟩, hg⟩ := hE
        have hs1 := hg.size
        have HA := hide (I0.out.grown hg (by simp; omega))
        have HG1 := hide (grown_trans (grown_of_gr HG0.out (some R)) hg)
        have h2 := hide (key_any R (l.drop n) (at' + (n : Int)) fl w1 hl1 (HRK.out.grown HG1.out hRg) hRg (by omega))
        clear h1 hl1 hg I0
        go_wp2_with fail
        refine h2.out.mono ?_
        intro e w2 hE
        unfold Post at hE
        rw [hq.out] at hE
        obtain ⟨⟨rfl, hn2, hl2⟩, hg2⟩ := hE
        have hs2 := hg2.size
        replace HA := hide ((HA.out.grown hg2 (by simp; omega)).alloc (.cells #[.int .i64 k1, .int .u64 k2] 30))
        have HKk := hide (IsB.new w2 #[.int .i64 k1, .int .u64 k2] 30)
        have HG2 := hide (grown_trans (grown_trans HG1.out hg2) (grown_of_gr ((Gr.refl w2).alloc (.cells #[.int .i64 k1, .int .u64 k2] 30)) _))
        have HL2 := hide (hl2.gr ((Gr.refl w2).alloc (.cells #[.int .i64 k1, .int .u64 k2] 30)))
        have hs3 : w2.heap.size < (w2.alloc (.cells #[.int .i64 k1, .int .u64 k2] 30)).heap.size := by rw [World.size_alloc]; omega
        clear h2 hl2 hg2 HG1 HRK
        go_wp2
        generalize hKB : w2.heap.size = KB at HKk hs2 hs3 ⊢
        generalize w2.alloc (.cells #[.int .i64 k1, .int .u64 k2] 30) = W3 at HA HKk HG2 HL2 hs3 ⊢
        clear hKB
        refine wp_region_held_drew (S := (fun w' => w'.cell? ⟨KB, 0, none⟩ = some (.int .i64 k1) ∧ w'.cell? ⟨KB, 1, none⟩ = some (.int .u64 k2))) (by assumption) ⟨HKk.out.cell 0, HKk.out.cell 1⟩ (fun hHeld => ?_)
        refine take_yes (v := ?_) 0 (some 9) rfl rfl (by kernel_rfl) (by kernel_rfl) (by kernel_rfl) (fun _ _ _ h => h) (by rfl) ?_ (by assumption) ?_
        rotate_left
        · intro w' hSw
          go_simp
          try with_reducible rfl
        try simp only [Act.put, List.setIfInBounds_toArray, List.set_cons_zero, List.set_cons_succ]
        refine take_yes (v := ?_) 1 (some 10) rfl rfl (by kernel_rfl) (by kernel_rfl) (by kernel_rfl) (fun _ _ _ h => h) (by rfl) ?_ (by assumption) ?_
        rotate_left
        · intro w' hSw
          have d0 := hSw.1
          have d1 := hSw.2
          go_simp
          try with_reducible rfl
        try simp only [Act.put, List.setIfInBounds_toArray, List.set_cons_zero, List.set_cons_succ]
        refine take_yes (v := ?_) 2 (some 11) rfl rfl (by kernel_rfl) (by kernel_rfl) (by kernel_rfl) (fun _ _ _ h => h) (by rfl) ?_ (by assumption) ?_
        rotate_left
        · intro w' hSw
          go_simp
          try with_reducible rfl
        try simp only [Act.put, List.setIfInBounds_toArray, List.set_cons_zero, List.set_cons_succ]
        refine wpAnyH_ready (rs := [3]) (by kernel_rfl) (by simp) ?_
        refine AllReadyH.cons rfl (fun K hK => ?_) AllReadyH.nil
        go_simp
        go_at_call 69
        refine (vector_any R ((l.drop n).drop n2) (at' + (n : Int) + (n2 : Int)) fl _ HL2.out.drew (show sb < W3.heap.size by omega)).mono ?_
        intro e w4 hE
        unfold Post at hE
        rw [hv.out] at hE
        obtain ⟨rfl, hg4⟩ := hE
        exact ⟨rfl, Post.badI (n + n2 + i) er HP0.out (by rw [Int.natCast_add, Int.natCast_add, ← Int.add_assoc, ← Int.add_assoc]) (grown_trans HG2.out (grown_trans (grown_of_gr ((Gr.refl _).drew) _) hg4))⟩
    · rw [hq] at HP0
      replace hq := hide hq
      replace HP0 := hide HP0
      go_enter Tryd.func71, Tryd.ntmps71
      go_wp2_with fail
      generalize w.alloc (.cells #[.int .i64 0, .int .i64 0, .int .u64 0, .int .i64 0, .int .u64 0] 32) = W0 at h1 I0 HG0 hl0 ⊢
      refine h1.out.mono ?_
      intro e w1 hE
      unfold Post at hE
      rw [hp.out] at hE
      obtain ⟨⟨rfl, hn, hl1⟩, hg⟩ := hE
      have hs1 := hg.size
      have HA := hide (I0.out.grown hg (by simp; omega))
      have HG1 := hide (grown_trans (grown_of_gr HG0.out (some R)) hg)
      have h2 := hide (key_any R (l.drop n) (at' + (n : Int)) fl w1 hl1 (HRK.out.grown HG1.out hRg) hRg (by omega))
      clear h1 hl1 hg I0
      go_wp2_with fail
      refine h2.out.mono ?_
      intro e w2 hE
      unfold Post at hE
      rw [hq.out] at hE
      obtain ⟨rfl, hg2⟩ := hE
      exact ⟨rfl, Post.badI (n + i) er HP0.out (by rw [Int.natCast_add, ← Int.add_assoc]) (grown_trans HG1.out hg2)⟩
  · rw [hp] at HP0
    replace hp := hide hp
    replace HP0 := hide HP0
    go_enter Tryd.func71, Tryd.ntmps71
    go_wp2_with fail
    generalize w.alloc (.cells #[.int .i64 0, .int .i64 0, .int .u64 0, .int .i64 0, .int .u64 0] 32) = W0 at h1 I0 HG0 hl0 ⊢
    refine h1.out.mono ?_
    intro e w1 hE
    unfold Post at hE
    rw [hp.out] at hE
    obtain ⟨rfl, hg⟩ := hE
    exact ⟨rfl, Post.badI i er HP0.out rfl (grown_trans (grown_of_gr HG0.out _) hg)⟩

end Go.Proofs.YtmhcmlegdoapdaaDoor
