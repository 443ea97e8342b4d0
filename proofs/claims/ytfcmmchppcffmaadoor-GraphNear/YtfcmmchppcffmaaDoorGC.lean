/- Package graph: beside. -/
import Derived.Test.YtfcmmchppcffmaaDoorGB
namespace Go.Proofs.YtfcmmchppcffmaaDoor
open Go.RowKit Go.Maps

set_option maxHeartbeats 2000000 in
set_option maxRecDepth 100000 in
theorem beside_any (v : Value) (l : List Rf) (hl : l.length ≤ 100000) (i : Nat) (hi : i < l.length) (w : World) (h : RSl w v l) :
    Calls Tryd.prog 25 #[v, .int .i64 (i : Int)] w fun e w' => e = .returned (.tuple #[.agg (besL l i).cells, .agg (besR l i).cells]) ∧ Below w.heap.size w w' := by
  have mixed : Tryd.prog.follows .mixedOrders = true := by kernel_rfl
  obtain ⟨va, vc, rfl, -, -⟩ := h.shape
  have HS := hide h
  have b2 := ((Below.refl w.heap.size w).alloc (Nat.le_refl _) (.cells #[.int .i64 0, .int .i64 0, .int .u64 0, .int .i64 0, .int .u64 0] 30)).alloc (by simp) (.cells #[.int .i64 0, .int .i64 0, .int .u64 0, .int .i64 0, .int .u64 0] 30)
  have b3 := fun P : Array Value => ((Below.refl w.heap.size w).alloc (Nat.le_refl _) (.cells P 30)).alloc (by simp) (.cells #[.int .i64 0, .int .i64 0, .int .u64 0, .int .i64 0, .int .u64 0] 30)
  clear h
  rcases Nat.eq_zero_or_pos i with h0 | h0
  · subst h0
    by_cases hr : 0 + 1 < l.length
    · have hd : decide ((0 : Int) < (l.length : Int) - 1) = true := by simp; omega
      have HL : Hid (besL l 0 = zr) := rfl
      obtain ⟨g2, o2, c2, ev, -, -, y0h, y1h, y2h, y3h, y4h⟩ := HS.out.cells (0 + 1) (by omega)
      injection ev with ev el ec
      clear el
      subst ev ec
      have HR : Hid (besR l (0) = (⟨l[0 + 1].id, l[0 + 1].rk, l[0 + 1].kn, l[0 + 1].ln, l[0 + 1].bt⟩ : Rf)) := by show besR l (0) = l[0 + 1]; unfold besR; simp [List.getD, List.getElem?_eq_getElem (show 0 + 1 < l.length by omega)]
      have Y0 := (b3 #[.int .i64 0, .int .i64 0, .int .u64 0, .int .i64 0, .int .u64 0]).cell (lt_of_cell y0h) |>.trans y0h
      have Y1 := (b3 #[.int .i64 0, .int .i64 0, .int .u64 0, .int .i64 0, .int .u64 0]).cell (lt_of_cell y1h) |>.trans y1h
      have Y2 := (b3 #[.int .i64 0, .int .i64 0, .int .u64 0, .int .i64 0, .int .u64 0]).cell (lt_of_cell y2h) |>.trans y2h
      have Y3 := (b3 #[.int .i64 0, .int .i64 0, .int .u64 0, .int .i64 0, .int .u64 0]).cell (lt_of_cell y3h) |>.trans y3h
      have Y4 := (b3 #[.int .i64 0, .int .i64 0, .int .u64 0, .int .i64 0, .int .u64 0]).cell (lt_of_cell y4h) |>.trans y4h
      clear y0h y1h y2h y3h y4h
      generalize l[0 + 1].id = y0 at *
      generalize l[0 + 1].rk = y1 at *
      generalize l[0 + 1].kn = y2 at *
      generalize l[0 + 1].ln = y3 at *
      generalize l[0 + 1].bt = y4 at *
      clear b2 b3
      go_enter Tryd.func25, Tryd.ntmps25
      go_wp2_with fail
      have I5 : Hid (IsB ((w.alloc (.cells #[.int .i64 0, .int .i64 0, .int .u64 0, .int .i64 0, .int .u64 0] 30)).alloc (.cells #[.int .i64 y0, .int .i64 y1, .int .u64 y2, .int .i64 y3, .int .u64 y4] 30)) w.heap.size #[.int .i64 0, .int .i64 0, .int .u64 0, .int .i64 0, .int .u64 0] 30) := (IsB.new w #[.int .i64 0, .int .i64 0, .int .u64 0, .int .i64 0, .int .u64 0] _).below ((Below.refl _ _).alloc (Nat.le_refl _) _)
      have J5 : Hid (IsB ((w.alloc (.cells #[.int .i64 0, .int .i64 0, .int .u64 0, .int .i64 0, .int .u64 0] 30)).alloc (.cells #[.int .i64 y0, .int .i64 y1, .int .u64 y2, .int .i64 y3, .int .u64 y4] 30)) (w.heap.size + 1) #[.int .i64 y0, .int .i64 y1, .int .u64 y2, .int .i64 y3, .int .u64 y4] 30) := by
        have := IsB.new (w.alloc (.cells #[.int .i64 0, .int .i64 0, .int .u64 0, .int .i64 0, .int .u64 0] 30)) #[.int .i64 y0, .int .i64 y1, .int .u64 y2, .int .i64 y3, .int .u64 y4] 30
        rwa [World.size_alloc] at this
      have B5 := hide (((Below.refl w.heap.size w).alloc (Nat.le_refl _) (.cells #[.int .i64 0, .int .i64 0, .int .u64 0, .int .i64 0, .int .u64 0] 30)).alloc (by simp) (.cells #[.int .i64 y0, .int .i64 y1, .int .u64 y2, .int .i64 y3, .int .u64 y4] 30))
      generalize ((w.alloc (.cells #[.int .i64 0, .int .i64 0, .int .u64 0, .int .i64 0, .int .u64 0] 30)).alloc (.cells #[.int .i64 y0, .int .i64 y1, .int .u64 y2, .int .i64 y3, .int .u64 y4] 30)) = W5 at *
      generalize hH : w.heap.size = H at I5 J5 ⊢
      replace hH := hide hH
      have ID := hide (I5.out.below ((Below.refl _ _).drew))
      have JD := hide (J5.out.below ((Below.refl _ _).drew))
      have BD := hide B5.out.drew
      refine regionL 3 (fun w' => IsB w' H #[.int .i64 0, .int .i64 0, .int .u64 0, .int .i64 0, .int .u64 0] 30 ∧ IsB w' (H + 1) #[.int .i64 y0, .int .i64 y1, .int .u64 y2, .int .i64 y3, .int .u64 y4] 30) mixed ⟨I5.out.below ((Below.refl _ _).drew), J5.out.below ((Below.refl _ _).drew)⟩ (fun hHeld => ?_)
      refine pickL (v := .agg #[.int .i64 0, .int .i64 0, .int .u64 0, .int .i64 0, .int .u64 0]) 0 (some 23) rfl rfl (by kernel_rfl) (by kernel_rfl) (by kernel_rfl) (by decide) (by kernel_rfl) (by kernel_rfl) (fun _ _ _ h => h) (by rfl) ?_ (by assumption) ?_
      · intro w' hSw
        obtain ⟨q0, q1⟩ := hSw
        exact exec_load rfl rfl (load_ref q0 rfl)
      try simp only [Act.put, List.setIfInBounds_toArray, List.set_cons_zero, List.set_cons_succ]
      refine pickL (v := .agg #[.int .i64 y0, .int .i64 y1, .int .u64 y2, .int .i64 y3, .int .u64 y4]) 1 (some 24) rfl rfl (by kernel_rfl) (by kernel_rfl) (by kernel_rfl) (by decide) (by kernel_rfl) (by kernel_rfl) (fun _ _ _ h => h) (by rfl) ?_ (by assumption) ?_
      · intro w' hSw
        obtain ⟨q0, q1⟩ := hSw
        exact exec_load rfl rfl (load_ref q1 rfl)
      try simp only [Act.put, List.setIfInBounds_toArray, List.set_cons_zero, List.set_cons_succ]
      refine oneL (i := 2) (by kernel_rfl) rfl (fun K hK => ?_)
      obtain ⟨w6, hst, I6, k6⟩ := store_ref ID.out (cs := #[.int .i64 0, .int .i64 0, .int .u64 0, .int .i64 0, .int .u64 0]) rfl rfl (by kernel_rfl)
      have J6 := hide (JD.out.kp k6 (by simp))
      have B6 : Hid (Below w.heap.size w w6) := BD.out.trans (k6.to_below (by have := BD.out.size; omega) (by simp; have := hH.out; omega))
      have HST := hide hst
      have I7 := hide I6
      clear hst I6 k6
      refine step_store_w rfl 30 (.tmp 4) (.tmp 23) rfl rfl rfl HST.out ?_
      refine hK.out _ _ ?_ ?_
      · exact ⟨I7.out, J6.out⟩
      clear hK K
      try simp only [Act.put, List.setIfInBounds_toArray]
      clear hHeld
      have hHeld : (fun w' => IsB w' H #[.int .i64 0, .int .i64 0, .int .u64 0, .int .i64 0, .int .u64 0] 30 ∧ IsB w' (H + 1) #[.int .i64 y0, .int .i64 y1, .int .u64 y2, .int .i64 y3, .int .u64 y4] 30) w6 := ⟨I7.out, J6.out⟩
      refine lateL (i := 3) (by kernel_rfl) rfl (by decide) (by kernel_rfl) (fun K hK => ?_)
      obtain ⟨w7, hst, J7, k7⟩ := store_ref J6.out (cs := #[.int .i64 y0, .int .i64 y1, .int .u64 y2, .int .i64 y3, .int .u64 y4]) rfl rfl (by kernel_rfl)
      have I8 := hide (I7.out.kp k7 (by simp))
      have B7 : Hid (Below w.heap.size w w7) := B6.out.trans (k7.to_below (by have := B6.out.size; omega) (by simp; have := hH.out; omega))
      have HST2 := hide hst
      have J8 := hide J7
      clear hst J7 k7
      refine step_store_w rfl 30 (.tmp 5) (.tmp 24) rfl rfl rfl HST2.out ?_
      refine hK.out _ _ ?_
      clear hK K
      try simp only [Act.put]
      refine doneL (by kernel_rfl) ?_ _
      clear hHeld
      go_wp2
      refine ret_rr (p := 4) (q := 5) (a := H) (b := H + 1) Tryd.results25 rfl rfl rfl rfl I8.out J8.out ?_
      exact ⟨by rw [HL.out, HR.out]; rfl, B7.out⟩
    · have hd : decide ((0 : Int) < (l.length : Int) - 1) = false := by simp; omega
      have HL : Hid (besL l 0 = zr) := rfl
      have HR : Hid (besR l (0) = zr) := by show _ = _; unfold besR; rw [List.getD_eq_getElem?_getD, List.getElem?_eq_none (by omega)]; rfl
      clear HS
      clear b2 b3
      go_enter Tryd.func25, Tryd.ntmps25
      go_wp2_with fail
      have I5 : Hid (IsB ((w.alloc (.cells #[.int .i64 0, .int .i64 0, .int .u64 0, .int .i64 0, .int .u64 0] 30)).alloc (.cells #[.int .i64 0, .int .i64 0, .int .u64 0, .int .i64 0, .int .u64 0] 30)) w.heap.size #[.int .i64 0, .int .i64 0, .int .u64 0, .int .i64 0, .int .u64 0] 30) := (IsB.new w #[.int .i64 0, .int .i64 0, .int .u64 0, .int .i64 0, .int .u64 0] _).below ((Below.refl _ _).alloc (Nat.le_refl _) _)
      have J5 : Hid (IsB ((w.alloc (.cells #[.int .i64 0, .int .i64 0, .int .u64 0, .int .i64 0, .int .u64 0] 30)).alloc (.cells #[.int .i64 0, .int .i64 0, .int .u64 0, .int .i64 0, .int .u64 0] 30)) (w.heap.size + 1) #[.int .i64 0, .int .i64 0, .int .u64 0, .int .i64 0, .int .u64 0] 30) := by
        have := IsB.new (w.alloc (.cells #[.int .i64 0, .int .i64 0, .int .u64 0, .int .i64 0, .int .u64 0] 30)) #[.int .i64 0, .int .i64 0, .int .u64 0, .int .i64 0, .int .u64 0] 30
        rwa [World.size_alloc] at this
      have B5 := hide (((Below.refl w.heap.size w).alloc (Nat.le_refl _) (.cells #[.int .i64 0, .int .i64 0, .int .u64 0, .int .i64 0, .int .u64 0] 30)).alloc (by simp) (.cells #[.int .i64 0, .int .i64 0, .int .u64 0, .int .i64 0, .int .u64 0] 30))
      generalize ((w.alloc (.cells #[.int .i64 0, .int .i64 0, .int .u64 0, .int .i64 0, .int .u64 0] 30)).alloc (.cells #[.int .i64 0, .int .i64 0, .int .u64 0, .int .i64 0, .int .u64 0] 30)) = W5 at *
      generalize hH : w.heap.size = H at I5 J5 ⊢
      replace hH := hide hH
      have ID := hide (I5.out.below ((Below.refl _ _).drew))
      have JD := hide (J5.out.below ((Below.refl _ _).drew))
      have BD := hide B5.out.drew
      refine regionL 3 (fun w' => IsB w' H #[.int .i64 0, .int .i64 0, .int .u64 0, .int .i64 0, .int .u64 0] 30 ∧ IsB w' (H + 1) #[.int .i64 0, .int .i64 0, .int .u64 0, .int .i64 0, .int .u64 0] 30) mixed ⟨I5.out.below ((Below.refl _ _).drew), J5.out.below ((Below.refl _ _).drew)⟩ (fun hHeld => ?_)
      refine pickL (v := .agg #[.int .i64 0, .int .i64 0, .int .u64 0, .int .i64 0, .int .u64 0]) 0 (some 23) rfl rfl (by kernel_rfl) (by kernel_rfl) (by kernel_rfl) (by decide) (by kernel_rfl) (by kernel_rfl) (fun _ _ _ h => h) (by rfl) ?_ (by assumption) ?_
      · intro w' hSw
        obtain ⟨q0, q1⟩ := hSw
        exact exec_load rfl rfl (load_ref q0 rfl)
      try simp only [Act.put, List.setIfInBounds_toArray, List.set_cons_zero, List.set_cons_succ]
      refine pickL (v := .agg #[.int .i64 0, .int .i64 0, .int .u64 0, .int .i64 0, .int .u64 0]) 1 (some 24) rfl rfl (by kernel_rfl) (by kernel_rfl) (by kernel_rfl) (by decide) (by kernel_rfl) (by kernel_rfl) (fun _ _ _ h => h) (by rfl) ?_ (by assumption) ?_
      · intro w' hSw
        obtain ⟨q0, q1⟩ := hSw
        exact exec_load rfl rfl (load_ref q1 rfl)
      try simp only [Act.put, List.setIfInBounds_toArray, List.set_cons_zero, List.set_cons_succ]
      refine oneL (i := 2) (by kernel_rfl) rfl (fun K hK => ?_)
      obtain ⟨w6, hst, I6, k6⟩ := store_ref ID.out (cs := #[.int .i64 0, .int .i64 0, .int .u64 0, .int .i64 0, .int .u64 0]) rfl rfl (by kernel_rfl)
      have J6 := hide (JD.out.kp k6 (by simp))
      have B6 : Hid (Below w.heap.size w w6) := BD.out.trans (k6.to_below (by have := BD.out.size; omega) (by simp; have := hH.out; omega))
      have HST := hide hst
      have I7 := hide I6
      clear hst I6 k6
      refine step_store_w rfl 30 (.tmp 4) (.tmp 23) rfl rfl rfl HST.out ?_
      refine hK.out _ _ ?_ ?_
      · exact ⟨I7.out, J6.out⟩
      clear hK K
      try simp only [Act.put, List.setIfInBounds_toArray]
      clear hHeld
      have hHeld : (fun w' => IsB w' H #[.int .i64 0, .int .i64 0, .int .u64 0, .int .i64 0, .int .u64 0] 30 ∧ IsB w' (H + 1) #[.int .i64 0, .int .i64 0, .int .u64 0, .int .i64 0, .int .u64 0] 30) w6 := ⟨I7.out, J6.out⟩
      refine lateL (i := 3) (by kernel_rfl) rfl (by decide) (by kernel_rfl) (fun K hK => ?_)
      obtain ⟨w7, hst, J7, k7⟩ := store_ref J6.out (cs := #[.int .i64 0, .int .i64 0, .int .u64 0, .int .i64 0, .int .u64 0]) rfl rfl (by kernel_rfl)
      have I8 := hide (I7.out.kp k7 (by simp))
      have B7 : Hid (Below w.heap.size w w7) := B6.out.trans (k7.to_below (by have := B6.out.size; omega) (by simp; have := hH.out; omega))
      have HST2 := hide hst
      have J8 := hide J7
      clear hst J7 k7
      refine step_store_w rfl 30 (.tmp 5) (.tmp 24) rfl rfl rfl HST2.out ?_
      refine hK.out _ _ ?_
      clear hK K
      try simp only [Act.put]
      refine doneL (by kernel_rfl) ?_ _
      clear hHeld
      go_wp2
      refine ret_rr (p := 4) (q := 5) (a := H) (b := H + 1) Tryd.results25 rfl rfl rfl rfl I8.out J8.out ?_
      exact ⟨by rw [HL.out, HR.out]; rfl, B7.out⟩
  · obtain ⟨k, rfl⟩ : ∃ k, i = k + 1 := ⟨i - 1, by omega⟩
    by_cases hr : k + 1 + 1 < l.length
    · have hd : decide (((k + 1 : Nat) : Int) < (l.length : Int) - 1) = true := by simp; omega
      obtain ⟨g, o, c, ev, -, -, h0, h1, h2, h3, h4⟩ := HS.out.cells k (by omega)
      injection ev with ev el ec
      clear el
      subst ev ec
      have HL : Hid (besL l (k + 1) = (⟨l[k].id, l[k].rk, l[k].kn, l[k].ln, l[k].bt⟩ : Rf)) := by show besL l (k + 1) = l[k]; unfold besL; rw [if_neg (by omega)]; simp [List.getD, List.getElem?_eq_getElem (show k < l.length by omega)]
      obtain ⟨g2, o2, c2, ev, -, -, y0h, y1h, y2h, y3h, y4h⟩ := HS.out.cells (k + 1 + 1) (by omega)
      injection ev with ev el ec
      clear el
      injection ev with ev; injection ev with ev ev2 _; subst ev ev2; clear ec
      have HR : Hid (besR l (k + 1) = (⟨l[k + 1 + 1].id, l[k + 1 + 1].rk, l[k + 1 + 1].kn, l[k + 1 + 1].ln, l[k + 1 + 1].bt⟩ : Rf)) := by show besR l (k + 1) = l[k + 1 + 1]; unfold besR; simp [List.getD, List.getElem?_eq_getElem (show k + 1 + 1 < l.length by omega)]
      have H0 := (b2.cell (lt_of_cell h0)).trans h0
      have H1 := (b2.cell (lt_of_cell h1)).trans h1
      have H2 := (b2.cell (lt_of_cell h2)).trans h2
      have H3 := (b2.cell (lt_of_cell h3)).trans h3
      have H4 := (b2.cell (lt_of_cell h4)).trans h4
      clear h0 h1 h2 h3 h4
      generalize l[k].id = x0 at *
      generalize l[k].rk = x1 at *
      generalize l[k].kn = x2 at *
      generalize l[k].ln = x3 at *
      generalize l[k].bt = x4 at *
      have Y0 := (b3 #[.int .i64 x0, .int .i64 x1, .int .u64 x2, .int .i64 x3, .int .u64 x4]).cell (lt_of_cell y0h) |>.trans y0h
      have Y1 := (b3 #[.int .i64 x0, .int .i64 x1, .int .u64 x2, .int .i64 x3, .int .u64 x4]).cell (lt_of_cell y1h) |>.trans y1h
      have Y2 := (b3 #[.int .i64 x0, .int .i64 x1, .int .u64 x2, .int .i64 x3, .int .u64 x4]).cell (lt_of_cell y2h) |>.trans y2h
      have Y3 := (b3 #[.int .i64 x0, .int .i64 x1, .int .u64 x2, .int .i64 x3, .int .u64 x4]).cell (lt_of_cell y3h) |>.trans y3h
      have Y4 := (b3 #[.int .i64 x0, .int .i64 x1, .int .u64 x2, .int .i64 x3, .int .u64 x4]).cell (lt_of_cell y4h) |>.trans y4h
      clear y0h y1h y2h y3h y4h
      generalize l[k + 1 + 1].id = y0 at *
      generalize l[k + 1 + 1].rk = y1 at *
      generalize l[k + 1 + 1].kn = y2 at *
      generalize l[k + 1 + 1].ln = y3 at *
      generalize l[k + 1 + 1].bt = y4 at *
      clear b2 b3
      go_enter Tryd.func25, Tryd.ntmps25
      go_wp2_with fail
      have I5 : Hid (IsB ((w.alloc (.cells #[.int .i64 x0, .int .i64 x1, .int .u64 x2, .int .i64 x3, .int .u64 x4] 30)).alloc (.cells #[.int .i64 y0, .int .i64 y1, .int .u64 y2, .int .i64 y3, .int .u64 y4] 30)) w.heap.size #[.int .i64 x0, .int .i64 x1, .int .u64 x2, .int .i64 x3, .int .u64 x4] 30) := (IsB.new w #[.int .i64 x0, .int .i64 x1, .int .u64 x2, .int .i64 x3, .int .u64 x4] _).below ((Below.refl _ _).alloc (Nat.le_refl _) _)
      have J5 : Hid (IsB ((w.alloc (.cells #[.int .i64 x0, .int .i64 x1, .int .u64 x2, .int .i64 x3, .int .u64 x4] 30)).alloc (.cells #[.int .i64 y0, .int .i64 y1, .int .u64 y2, .int .i64 y3, .int .u64 y4] 30)) (w.heap.size + 1) #[.int .i64 y0, .int .i64 y1, .int .u64 y2, .int .i64 y3, .int .u64 y4] 30) := by
        have := IsB.new (w.alloc (.cells #[.int .i64 x0, .int .i64 x1, .int .u64 x2, .int .i64 x3, .int .u64 x4] 30)) #[.int .i64 y0, .int .i64 y1, .int .u64 y2, .int .i64 y3, .int .u64 y4] 30
        rwa [World.size_alloc] at this
      have B5 := hide (((Below.refl w.heap.size w).alloc (Nat.le_refl _) (.cells #[.int .i64 x0, .int .i64 x1, .int .u64 x2, .int .i64 x3, .int .u64 x4] 30)).alloc (by simp) (.cells #[.int .i64 y0, .int .i64 y1, .int .u64 y2, .int .i64 y3, .int .u64 y4] 30))
      generalize ((w.alloc (.cells #[.int .i64 x0, .int .i64 x1, .int .u64 x2, .int .i64 x3, .int .u64 x4] 30)).alloc (.cells #[.int .i64 y0, .int .i64 y1, .int .u64 y2, .int .i64 y3, .int .u64 y4] 30)) = W5 at *
      generalize hH : w.heap.size = H at I5 J5 ⊢
      replace hH := hide hH
      have ID := hide (I5.out.below ((Below.refl _ _).drew))
      have JD := hide (J5.out.below ((Below.refl _ _).drew))
      have BD := hide B5.out.drew
      refine regionL 3 (fun w' => IsB w' H #[.int .i64 x0, .int .i64 x1, .int .u64 x2, .int .i64 x3, .int .u64 x4] 30 ∧ IsB w' (H + 1) #[.int .i64 y0, .int .i64 y1, .int .u64 y2, .int .i64 y3, .int .u64 y4] 30) mixed ⟨I5.out.below ((Below.refl _ _).drew), J5.out.below ((Below.refl _ _).drew)⟩ (fun hHeld => ?_)
      refine pickL (v := .agg #[.int .i64 x0, .int .i64 x1, .int .u64 x2, .int .i64 x3, .int .u64 x4]) 0 (some 23) rfl rfl (by kernel_rfl) (by kernel_rfl) (by kernel_rfl) (by decide) (by kernel_rfl) (by kernel_rfl) (fun _ _ _ h => h) (by rfl) ?_ (by assumption) ?_
      · intro w' hSw
        obtain ⟨q0, q1⟩ := hSw
        exact exec_load rfl rfl (load_ref q0 rfl)
      try simp only [Act.put, List.setIfInBounds_toArray, List.set_cons_zero, List.set_cons_succ]
      refine pickL (v := .agg #[.int .i64 y0, .int .i64 y1, .int .u64 y2, .int .i64 y3, .int .u64 y4]) 1 (some 24) rfl rfl (by kernel_rfl) (by kernel_rfl) (by kernel_rfl) (by decide) (by kernel_rfl) (by kernel_rfl) (fun _ _ _ h => h) (by rfl) ?_ (by assumption) ?_
      · intro w' hSw
        obtain ⟨q0, q1⟩ := hSw
        exact exec_load rfl rfl (load_ref q1 rfl)
      try simp only [Act.put, List.setIfInBounds_toArray, List.set_cons_zero, List.set_cons_succ]
      refine oneL (i := 2) (by kernel_rfl) rfl (fun K hK => ?_)
      obtain ⟨w6, hst, I6, k6⟩ := store_ref ID.out (cs := #[.int .i64 x0, .int .i64 x1, .int .u64 x2, .int .i64 x3, .int .u64 x4]) rfl rfl (by kernel_rfl)
      have J6 := hide (JD.out.kp k6 (by simp))
      have B6 : Hid (Below w.heap.size w w6) := BD.out.trans (k6.to_below (by have := BD.out.size; omega) (by simp; have := hH.out; omega))
      have HST := hide hst
      have I7 := hide I6
      clear hst I6 k6
      refine step_store_w rfl 30 (.tmp 4) (.tmp 23) rfl rfl rfl HST.out ?_
      refine hK.out _ _ ?_ ?_
      · exact ⟨I7.out, J6.out⟩
      clear hK K
      try simp only [Act.put, List.setIfInBounds_toArray]
      clear hHeld
      have hHeld : (fun w' => IsB w' H #[.int .i64 x0, .int .i64 x1, .int .u64 x2, .int .i64 x3, .int .u64 x4] 30 ∧ IsB w' (H + 1) #[.int .i64 y0, .int .i64 y1, .int .u64 y2, .int .i64 y3, .int .u64 y4] 30) w6 := ⟨I7.out, J6.out⟩
      refine lateL (i := 3) (by kernel_rfl) rfl (by decide) (by kernel_rfl) (fun K hK => ?_)
      obtain ⟨w7, hst, J7, k7⟩ := store_ref J6.out (cs := #[.int .i64 y0, .int .i64 y1, .int .u64 y2, .int .i64 y3, .int .u64 y4]) rfl rfl (by kernel_rfl)
      have I8 := hide (I7.out.kp k7 (by simp))
      have B7 : Hid (Below w.heap.size w w7) := B6.out.trans (k7.to_below (by have := B6.out.size; omega) (by simp; have := hH.out; omega))
      have HST2 := hide hst
      have J8 := hide J7
      clear hst J7 k7
      refine step_store_w rfl 30 (.tmp 5) (.tmp 24) rfl rfl rfl HST2.out ?_
      refine hK.out _ _ ?_
      clear hK K
      try simp only [Act.put]
      refine doneL (by kernel_rfl) ?_ _
      clear hHeld
      go_wp2
      refine ret_rr (p := 4) (q := 5) (a := H) (b := H + 1) Tryd.results25 rfl rfl rfl rfl I8.out J8.out ?_
      exact ⟨by rw [HL.out, HR.out]; rfl, B7.out⟩
    · have hd : decide (((k + 1 : Nat) : Int) < (l.length : Int) - 1) = false := by simp; omega
      obtain ⟨g, o, c, ev, -, -, h0, h1, h2, h3, h4⟩ := HS.out.cells k (by omega)
      injection ev with ev el ec
      clear el
      subst ev ec
      have HL : Hid (besL l (k + 1) = (⟨l[k].id, l[k].rk, l[k].kn, l[k].ln, l[k].bt⟩ : Rf)) := by show besL l (k + 1) = l[k]; unfold besL; rw [if_neg (by omega)]; simp [List.getD, List.getElem?_eq_getElem (show k < l.length by omega)]
      have HR : Hid (besR l (k + 1) = zr) := by show _ = _; unfold besR; rw [List.getD_eq_getElem?_getD, List.getElem?_eq_none (by omega)]; rfl
      have H0 := (b2.cell (lt_of_cell h0)).trans h0
      have H1 := (b2.cell (lt_of_cell h1)).trans h1
      have H2 := (b2.cell (lt_of_cell h2)).trans h2
      have H3 := (b2.cell (lt_of_cell h3)).trans h3
      have H4 := (b2.cell (lt_of_cell h4)).trans h4
      clear h0 h1 h2 h3 h4
      generalize l[k].id = x0 at *
      generalize l[k].rk = x1 at *
      generalize l[k].kn = x2 at *
      generalize l[k].ln = x3 at *
      generalize l[k].bt = x4 at *
      clear b2 b3
      go_enter Tryd.func25, Tryd.ntmps25
      go_wp2_with fail
      have I5 : Hid (IsB ((w.alloc (.cells #[.int .i64 x0, .int .i64 x1, .int .u64 x2, .int .i64 x3, .int .u64 x4] 30)).alloc (.cells #[.int .i64 0, .int .i64 0, .int .u64 0, .int .i64 0, .int .u64 0] 30)) w.heap.size #[.int .i64 x0, .int .i64 x1, .int .u64 x2, .int .i64 x3, .int .u64 x4] 30) := (IsB.new w #[.int .i64 x0, .int .i64 x1, .int .u64 x2, .int .i64 x3, .int .u64 x4] _).below ((Below.refl _ _).alloc (Nat.le_refl _) _)
      have J5 : Hid (IsB ((w.alloc (.cells #[.int .i64 x0, .int .i64 x1, .int .u64 x2, .int .i64 x3, .int .u64 x4] 30)).alloc (.cells #[.int .i64 0, .int .i64 0, .int .u64 0, .int .i64 0, .int .u64 0] 30)) (w.heap.size + 1) #[.int .i64 0, .int .i64 0, .int .u64 0, .int .i64 0, .int .u64 0] 30) := by
        have := IsB.new (w.alloc (.cells #[.int .i64 x0, .int .i64 x1, .int .u64 x2, .int .i64 x3, .int .u64 x4] 30)) #[.int .i64 0, .int .i64 0, .int .u64 0, .int .i64 0, .int .u64 0] 30
        rwa [World.size_alloc] at this
      have B5 := hide (((Below.refl w.heap.size w).alloc (Nat.le_refl _) (.cells #[.int .i64 x0, .int .i64 x1, .int .u64 x2, .int .i64 x3, .int .u64 x4] 30)).alloc (by simp) (.cells #[.int .i64 0, .int .i64 0, .int .u64 0, .int .i64 0, .int .u64 0] 30))
      generalize ((w.alloc (.cells #[.int .i64 x0, .int .i64 x1, .int .u64 x2, .int .i64 x3, .int .u64 x4] 30)).alloc (.cells #[.int .i64 0, .int .i64 0, .int .u64 0, .int .i64 0, .int .u64 0] 30)) = W5 at *
      generalize hH : w.heap.size = H at I5 J5 ⊢
      replace hH := hide hH
      have ID := hide (I5.out.below ((Below.refl _ _).drew))
      have JD := hide (J5.out.below ((Below.refl _ _).drew))
      have BD := hide B5.out.drew
      refine regionL 3 (fun w' => IsB w' H #[.int .i64 x0, .int .i64 x1, .int .u64 x2, .int .i64 x3, .int .u64 x4] 30 ∧ IsB w' (H + 1) #[.int .i64 0, .int .i64 0, .int .u64 0, .int .i64 0, .int .u64 0] 30) mixed ⟨I5.out.below ((Below.refl _ _).drew), J5.out.below ((Below.refl _ _).drew)⟩ (fun hHeld => ?_)
      refine pickL (v := .agg #[.int .i64 x0, .int .i64 x1, .int .u64 x2, .int .i64 x3, .int .u64 x4]) 0 (some 23) rfl rfl (by kernel_rfl) (by kernel_rfl) (by kernel_rfl) (by decide) (by kernel_rfl) (by kernel_rfl) (fun _ _ _ h => h) (by rfl) ?_ (by assumption) ?_
      · intro w' hSw
        obtain ⟨q0, q1⟩ := hSw
        exact exec_load rfl rfl (load_ref q0 rfl)
      try simp only [Act.put, List.setIfInBounds_toArray, List.set_cons_zero, List.set_cons_succ]
      refine pickL (v := .agg #[.int .i64 0, .int .i64 0, .int .u64 0, .int .i64 0, .int .u64 0]) 1 (some 24) rfl rfl (by kernel_rfl) (by kernel_rfl) (by kernel_rfl) (by decide) (by kernel_rfl) (by kernel_rfl) (fun _ _ _ h => h) (by rfl) ?_ (by assumption) ?_
      · intro w' hSw
        obtain ⟨q0, q1⟩ := hSw
        exact exec_load rfl rfl (load_ref q1 rfl)
      try simp only [Act.put, List.setIfInBounds_toArray, List.set_cons_zero, List.set_cons_succ]
      refine oneL (i := 2) (by kernel_rfl) rfl (fun K hK => ?_)
      obtain ⟨w6, hst, I6, k6⟩ := store_ref ID.out (cs := #[.int .i64 x0, .int .i64 x1, .int .u64 x2, .int .i64 x3, .int .u64 x4]) rfl rfl (by kernel_rfl)
      have J6 := hide (JD.out.kp k6 (by simp))
      have B6 : Hid (Below w.heap.size w w6) := BD.out.trans (k6.to_below (by have := BD.out.size; omega) (by simp; have := hH.out; omega))
      have HST := hide hst
      have I7 := hide I6
      clear hst I6 k6
      refine step_store_w rfl 30 (.tmp 4) (.tmp 23) rfl rfl rfl HST.out ?_
      refine hK.out _ _ ?_ ?_
      · exact ⟨I7.out, J6.out⟩
      clear hK K
      try simp only [Act.put, List.setIfInBounds_toArray]
      clear hHeld
      have hHeld : (fun w' => IsB w' H #[.int .i64 x0, .int .i64 x1, .int .u64 x2, .int .i64 x3, .int .u64 x4] 30 ∧ IsB w' (H + 1) #[.int .i64 0, .int .i64 0, .int .u64 0, .int .i64 0, .int .u64 0] 30) w6 := ⟨I7.out, J6.out⟩
      refine lateL (i := 3) (by kernel_rfl) rfl (by decide) (by kernel_rfl) (fun K hK => ?_)
      obtain ⟨w7, hst, J7, k7⟩ := store_ref J6.out (cs := #[.int .i64 0, .int .i64 0, .int .u64 0, .int .i64 0, .int .u64 0]) rfl rfl (by kernel_rfl)
      have I8 := hide (I7.out.kp k7 (by simp))
      have B7 : Hid (Below w.heap.size w w7) := B6.out.trans (k7.to_below (by have := B6.out.size; omega) (by simp; have := hH.out; omega))
      have HST2 := hide hst
      have J8 := hide J7
      clear hst J7 k7
      refine step_store_w rfl 30 (.tmp 5) (.tmp 24) rfl rfl rfl HST2.out ?_
      refine hK.out _ _ ?_
      clear hK K
      try simp only [Act.put]
      refine doneL (by kernel_rfl) ?_ _
      clear hHeld
      go_wp2
      refine ret_rr (p := 4) (q := 5) (a := H) (b := H + 1) Tryd.results25 rfl rfl rfl rfl I8.out J8.out ?_
      exact ⟨by rw [HL.out, HR.out]; rfl, B7.out⟩

end Go.Proofs.YtfcmmchppcffmaaDoor
