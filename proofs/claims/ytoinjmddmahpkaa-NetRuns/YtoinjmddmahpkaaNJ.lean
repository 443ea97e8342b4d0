/- Package net: lose, Take, Drop. -/
import Derived.Test.YtoinjmddmahpkaaNI
namespace Go.Proofs.Ytoinjmddmahpkaa
open Go.RowKit Go.Maps

/-- Five cells of a row, stored one by one. -/
@[reducible] def put5at (w : World) (b o : Nat) (x0 x1 x2 x3 x4 : Value) : World :=
  ((((w.setCell ⟨b, o, none⟩ x0).setCell ⟨b, o + 1, none⟩ x1).setCell ⟨b, o + 2, none⟩ x2).setCell ⟨b, o + 3, none⟩ x3).setCell ⟨b, o + 4, none⟩ x4
theorem put5at_kp (w : World) (b o : Nat) (x0 x1 x2 x3 x4 : Value) : Kp [b] w (put5at w b o x0 x1 x2 x3 x4) :=
  (((((Kp.refl _ w).set _ x0 (Or.inl (by simp))).set _ x1 (Or.inl (by simp))).set _ x2 (Or.inl (by simp))).set _ x3 (Or.inl (by simp))).set _ x4 (Or.inl (by simp))
def set5 (xs : List Value) (o : Nat) (x0 x1 x2 x3 x4 : Value) : List Value := ((((xs.set o x0).set (o + 1) x1).set (o + 2) x2).set (o + 3) x3).set (o + 4) x4
theorem Rw.stored5 {w : World} {e : TypeId} {size g n cap : Nat} {xs : List Value} (h : Rw w e size (.slice (some ⟨g, 0, none⟩) n cap) n xs) (o : Nat) (x0 x1 x2 x3 x4 : Value) :
    Rw (put5at w g o x0 x1 x2 x3 x4) e size (.slice (some ⟨g, 0, none⟩) n cap) n (set5 xs o x0 x1 x2 x3 x4) := ((((h.stored o x0).stored (o + 1) x1).stored (o + 2) x2).stored (o + 3) x3).stored (o + 4) x4
theorem set5_take (xs : List Value) (o : Nat) (x0 x1 x2 x3 x4 : Value) : (set5 xs o x0 x1 x2 x3 x4).take o = xs.take o := by
  unfold set5
  apply List.ext_getElem?
  intro j
  simp only [List.getElem?_take]
  split
  · rw [List.getElem?_set_ne (by omega), List.getElem?_set_ne (by omega), List.getElem?_set_ne (by omega), List.getElem?_set_ne (by omega), List.getElem?_set_ne (by omega)]
  · rfl
theorem set5_far (xs : List Value) (o : Nat) (x0 x1 x2 x3 x4 : Value) (j : Nat) (h : o + 5 ≤ j) : (set5 xs o x0 x1 x2 x3 x4)[j]? = xs[j]? := by
  unfold set5
  rw [List.getElem?_set_ne (by omega), List.getElem?_set_ne (by omega), List.getElem?_set_ne (by omega), List.getElem?_set_ne (by omega), List.getElem?_set_ne (by omega)]

set_option maxHeartbeats 8000000 in
set_option maxRecDepth 100000 in
theorem lose_any (b m : Nat) (v : Value) (ps : List Pc) (c : Cnt) (k : Nat) (w : World) (h : NS w b m v ps c k) (i : Nat) (hi : i < ps.length) :
    Calls Try.prog 38 #[.pointer (some ⟨b, 0, none⟩), .int .i64 (i : Int)] w fun e w' => e = .returned (.tuple #[]) ∧ ∃ v', Nx w w' b m v v' (ps.eraseIdx i) c k := by
  have mixed : Try.prog.follows .mixedOrders = true := by kernel_rfl
  have hlen := h.len
  obtain ⟨g, cap, rfl, hcap, hmax, c0, c1, c2, c3, c4⟩ := h.cells i hi
  have f0 := h.row.row.frozenAt (i * 5)
  have f1 := h.row.row.frozenAt (i * 5 + 1)
  have f2 := h.row.row.frozenAt (i * 5 + 2)
  have f3 := h.row.row.frozenAt (i * 5 + 3)
  have f4 := h.row.row.frozenAt (i * 5 + 4)
  have hb0 := h.blk.cell 0
  simp at hb0
  have hR5 := hide (h.row.row.stored5 (i * 5) (.bool false) (.int .i64 0) (.bool false) (.int .i64 0) (.slice none 0 0))
  have hK5 := hide (put5at_kp w g (i * 5) (.bool false) (.int .i64 0) (.bool false) (.int .i64 0) (.slice none 0 0))
  have H := hide h
  have hfn := h.blk.free 0
  clear h
  have hgb : b ≠ g := by
    intro e
    have h1 := H.out.blk
    obtain ⟨-, cur, h2⟩ := H.out.row.row.lt g rfl
    unfold IsB at h1
    rw [e, h2] at h1
    injection h1 with h1
    injection h1 with _ h1
    cases h1
  generalize ps[i] = p at c0 c1 c2 c3 c4
  obtain ⟨fa, fn, ta, tn, pa, pc, bs⟩ := p
  simp only [] at c0 c1 c2 c3 c4
  generalize hn : ps.length = n at *
  replace hn := hide hn
  go_enter Try.func38, Try.ntmps38
  go_wp2
  generalize hW1 : put5at w g (i * 5) (.bool false) (.int .i64 0) (.bool false) (.int .i64 0) (.slice none 0 0) = W1 at hR5 hK5
  dsimp only [put5at] at hW1
  rw [hW1]
  replace hW1 := hide hW1
  have hB1 := hide (H.out.blk.kp hK5.out (by simpa using hgb))
  have HS0 : Hid (W1.drew.cell? ⟨b, 0, none⟩ = some (.slice (some ⟨g, 0, none⟩) n cap)) := hB1.out.cell 0
  clear c0 c1 c2 c3 c4 f0 f1 f2 f3 f4 hb0 hfn
  have hic : i ≤ cap := by omega
  obtain ⟨q, hq⟩ : ∃ q : Nat, q = i + 1 := ⟨_, rfl⟩
  have hqn : q ≤ n := by omega
  have hwr : Hid (IntKind.i64.wrap ((i : Int) + 1) = (q : Int)) := by
    show _ = _
    rw [IntKind.wrap_i64]; omega
  replace hq := hide hq
  -- the two parts
  have hRh := hide ((hR5.out.head i i (by omega) (Nat.le_refl _) (by omega)))
  rw [set5_take, pcs_take] at hRh
  have hnews : ∀ j u, (pcs (ps.drop q))[j]? = some u → W1.drew.cell? ((if cap = q then (⟨g, 0, none⟩ : Addr) else ⟨g, q * 5, none⟩).add j) = some u := by
    intro j u hu
    have hj := (List.getElem?_eq_some_iff.1 hu).1
    rw [pcs_len, List.length_drop, hn.out] at hj
    rw [if_neg (by omega), add_none]
    show W1.cell? _ = _
    rw [hR5.out.cellAt (q * 5 + j) (by omega), set5_far _ _ _ _ _ _ _ _ (by have := hq.out; omega), ← List.getElem?_drop, pcs_drop]
    exact hu
  obtain ⟨i0, hi0, hz0, hz1, hz2⟩ := info_parts Try.infoP
  obtain ⟨v', w4, hrun, hrw, hgr, hat, -⟩ := run_append_rw (P := Try.prog) W1.drew 26 26 35 i0 _ 5 56 Try.underlying26 hi0 hz0 hz1 hz2 rfl
    (.slice (some ⟨g, 0, none⟩) i i) i (pcs (ps.take i)) hRh.out (.slice (if cap = q then some ⟨g, 0, none⟩ else some ⟨g, q * 5, none⟩) (n - q) (cap - q)) (n - q) (pcs (ps.drop q))
    (by rw [pcs_len, List.length_drop, hn.out]) (Or.inl ⟨if cap = q then ⟨g, 0, none⟩ else ⟨g, q * 5, none⟩, cap - q, by split <;> rfl, hnews⟩) (pcs_one _) (by unfold maxLen; omega) (by omega)
  obtain ⟨va, vc, rfl, -, -⟩ := hrw.shape
  generalize hln : i + (n - q) = ln at *
  replace hln := hide hln
  have HR := hide hrun
  have HW := hide hrw
  have HG := hide hgr
  have HT := hide hat
  have hB4 := hide (IsB.grown (show IsB W1.drew b _ _ from hB1.out) hgr (by simpa [Value.ownBlock] using hgb))
  have HS4 : Hid (w4.cell? ⟨b, 0, none⟩ = some (.slice (some ⟨g, 0, none⟩) n cap)) := hB4.out.cell 0
  have hf4 := hB4.out.free 0
  have hc4 : w4.cell? ⟨b, 0, none⟩ = some (.slice (some ⟨g, 0, none⟩) n cap) := HS4.out
  clear hrun hrw hgr hat hnews hRh
  refine regionL 18 (fun w' => w'.cell? ⟨b, 0, none⟩ = some (.slice (some ⟨g, 0, none⟩) n cap)) mixed HS0.out (fun hHeld => ?_)
  refine pickA (v := ?_) 0 (some 11) rfl rfl (by kernel_rfl) (by kernel_rfl) (by kernel_rfl) (by decide) (fun _ _ _ h => h) (by rfl) ?_ (by assumption) ?_
  rotate_left
  · intro w'
    go_simp
    try with_reducible rfl
  try simp only [Act.put, List.setIfInBounds_toArray, List.set_cons_zero, List.set_cons_succ]
  refine pickA (v := ?_) 1 (some 12) rfl rfl (by kernel_rfl) (by kernel_rfl) (by kernel_rfl) (by decide) (fun _ _ _ h => h) (by rfl) ?_ (by assumption) ?_
  rotate_left
  · intro w'
    go_simp
    try with_reducible rfl
  try simp only [Act.put, List.setIfInBounds_toArray, List.set_cons_zero, List.set_cons_succ]
  refine pickA (v := ?_) 2 (some 13) rfl rfl (by kernel_rfl) (by kernel_rfl) (by kernel_rfl) (by decide) (fun _ _ _ h => h) (by rfl) ?_ (by assumption) ?_
  rotate_left
  · intro w'
    go_simp
    try with_reducible rfl
  try simp only [Act.put, List.setIfInBounds_toArray, List.set_cons_zero, List.set_cons_succ]
  refine pickA (v := ?_) 3 (some 14) rfl rfl (by kernel_rfl) (by kernel_rfl) (by kernel_rfl) (by decide) (fun _ _ _ h => h) (by rfl) ?_ (by assumption) ?_
  rotate_left
  · intro w'
    go_simp
    try with_reducible rfl
  try simp only [Act.put, List.setIfInBounds_toArray, List.set_cons_zero, List.set_cons_succ]
  refine pickL (v := ?_) 4 (some 15) rfl rfl (by kernel_rfl) (by kernel_rfl) (by kernel_rfl) (by decide) (by kernel_rfl) (by kernel_rfl) (fun _ _ _ h => h) (by rfl) ?_ (by assumption) ?_
  rotate_left
  · intro w' hSw
    go_simp
    try with_reducible rfl
  try simp only [Act.put, List.setIfInBounds_toArray, List.set_cons_zero, List.set_cons_succ]
  refine pickA (v := ?_) 5 (some 16) rfl rfl (by kernel_rfl) (by kernel_rfl) (by kernel_rfl) (by decide) (fun _ _ _ h => h) (by rfl) ?_ (by assumption) ?_
  rotate_left
  · intro w'
    go_simp
    try with_reducible rfl
  try simp only [Act.put, List.setIfInBounds_toArray, List.set_cons_zero, List.set_cons_succ]
  refine pickA (v := ?_) 6 (some 17) rfl rfl (by kernel_rfl) (by kernel_rfl) (by kernel_rfl) (by decide) (fun _ _ _ h => h) (by rfl) ?_ (by assumption) ?_
  rotate_left
  · intro w'
    go_simp
    try with_reducible rfl
  try simp only [Act.put, List.setIfInBounds_toArray, List.set_cons_zero, List.set_cons_succ]
  refine pickA (v := .slice (some ⟨g, 0, none⟩) i i) 7 (some 18) rfl rfl (by kernel_rfl) (by kernel_rfl) (by kernel_rfl) (by decide) (fun _ _ _ h => h) (by rfl) ?_ (by assumption) ?_
  · intro w'
    go_simp
  try simp only [Act.put, List.setIfInBounds_toArray, List.set_cons_zero, List.set_cons_succ]
  refine pickA (v := ?_) 8 (some 19) rfl rfl (by kernel_rfl) (by kernel_rfl) (by kernel_rfl) (by decide) (fun _ _ _ h => h) (by rfl) ?_ (by assumption) ?_
  rotate_left
  · intro w'
    go_simp
    try with_reducible rfl
  try simp only [Act.put, List.setIfInBounds_toArray, List.set_cons_zero, List.set_cons_succ]
  refine pickA (v := ?_) 9 (some 20) rfl rfl (by kernel_rfl) (by kernel_rfl) (by kernel_rfl) (by decide) (fun _ _ _ h => h) (by rfl) ?_ (by assumption) ?_
  rotate_left
  · intro w'
    go_simp
    try with_reducible rfl
  try simp only [Act.put, List.setIfInBounds_toArray, List.set_cons_zero, List.set_cons_succ]
  refine pickA (v := ?_) 10 (some 21) rfl rfl (by kernel_rfl) (by kernel_rfl) (by kernel_rfl) (by decide) (fun _ _ _ h => h) (by rfl) ?_ (by assumption) ?_
  rotate_left
  · intro w'
    go_simp
    try with_reducible rfl
  try simp only [Act.put, List.setIfInBounds_toArray, List.set_cons_zero, List.set_cons_succ]
  refine pickL (v := ?_) 11 (some 22) rfl rfl (by kernel_rfl) (by kernel_rfl) (by kernel_rfl) (by decide) (by kernel_rfl) (by kernel_rfl) (fun _ _ _ h => h) (by rfl) ?_ (by assumption) ?_
  rotate_left
  · intro w' hSw
    go_simp
    try with_reducible rfl
  try simp only [Act.put, List.setIfInBounds_toArray, List.set_cons_zero, List.set_cons_succ]
  refine pickA (v := ?_) 12 (some 23) rfl rfl (by kernel_rfl) (by kernel_rfl) (by kernel_rfl) (by decide) (fun _ _ _ h => h) (by rfl) ?_ (by assumption) ?_
  rotate_left
  · intro w'
    go_simp
    try with_reducible rfl
  try simp only [Act.put, List.setIfInBounds_toArray, List.set_cons_zero, List.set_cons_succ]
  refine pickA (v := .int .i64 (q : Int)) 13 (some 24) rfl rfl (by kernel_rfl) (by kernel_rfl) (by kernel_rfl) (by decide) (fun _ _ _ h => h) (by rfl) ?_ (by assumption) ?_
  · intro w'
    go_simp
    rw [hwr.out]
  try simp only [Act.put, List.setIfInBounds_toArray, List.set_cons_zero, List.set_cons_succ]
  refine pickA (v := .slice (if cap = q then some ⟨g, 0, none⟩ else some ⟨g, q * 5, none⟩) (n - q) (cap - q)) 14 (some 25) rfl rfl (by kernel_rfl) (by kernel_rfl) (by kernel_rfl) (by decide) (fun _ _ _ h => h) (by rfl) ?_ (by assumption) ?_
  · intro w'
    go_simp
  try simp only [Act.put, List.setIfInBounds_toArray, List.set_cons_zero, List.set_cons_succ]
  refine oneL (i := 15) (by kernel_rfl) rfl (fun K hK => ?_)
  refine step_append_eq rfl (.tmp 18) (.tmp 25) 26 rfl _ _ (.slice va ln vc) w4 rfl rfl HR.out ?_
  refine hK.out _ _ ?_ ?_
  · exact HS4.out
  clear hK K
  try simp only [Act.put, List.setIfInBounds_toArray]
  replace hHeld := HS4.out
  refine pickA (v := ?_) 16 (some 27) rfl rfl (by kernel_rfl) (by kernel_rfl) (by kernel_rfl) (by decide) (fun _ _ _ h => h) (by rfl) ?_ (by assumption) ?_
  rotate_left
  · intro w'
    go_simp
    try with_reducible rfl
  try simp only [Act.put]
  refine pickA (v := ?_) 17 (some 28) rfl rfl (by kernel_rfl) (by kernel_rfl) (by kernel_rfl) (by decide) (fun _ _ _ h => h) (by rfl) ?_ (by assumption) ?_
  rotate_left
  · intro w'
    go_simp
    try with_reducible rfl
  try simp only [Act.put]
  refine lateL (i := 18) (by kernel_rfl) rfl (by decide) (by kernel_rfl) (fun K hK => ?_)
  go_simp
  refine hK.out _ _ ?_
  clear hK K
  try simp only [Act.put]
  refine doneL (by kernel_rfl) ?_ _
  refine bodyPost_end (results_none rfl _ _ _) rfl ?_
  refine ⟨rfl, .slice va ln vc, ?_⟩
  have hvq : ∀ q', (Value.slice va ln vc).ownBlock = some q' → some g = some q' ∨ W1.heap.size ≤ q' := by
    intro q' hq'
    rcases HT.out with h1 | h1
    · exact Or.inl (by rw [h1] at hq'; simpa [Value.ownBlock] using hq')
    · exact Or.inr (by rw [h1] at hq'; have := Option.some.inj hq'; simp at this; omega)
  have hKa : Kp [b, g] w (w4.setCell ⟨b, 0, none⟩ (.slice va ln vc)) := by
    refine Kp.set (((hK5.out.mono (T := [b, g]) (by simp)).drew).grown HG.out ?_) _ _ (Or.inl (by simp))
    intro q' hq'
    simp [Value.ownBlock] at hq'
    simp [hq']
  have hbl : b < W1.heap.size := hB1.out.lt
  have hnb : NoBy w [b, g] := fun q' hq' => H.out.noBy q' (by simp at hq'; rcases hq' with rfl | rfl <;> simp [foot, Value.ownBlock])
  have her : ps.eraseIdx i = ps.take i ++ ps.drop q := by rw [hq.out]; exact List.eraseIdx_eq_take_drop_succ ps i
  have hle : (ps.eraseIdx i).length = ln := by rw [her, List.length_append, List.length_take, List.length_drop, hn.out, ← hln.out]; omega
  refine ⟨⟨?_, H.out.map.kp hKa ?_, ⟨?_, ?_⟩, by have := hq.out; rw [hle, ← hln.out]; omega, H.out.c0, H.out.c1⟩, hKa.mono ?_, ?_⟩
  · have := hB4.out.set 0 (.slice va ln vc)
    simpa using this
  · intro hm
    simp at hm
    rcases hm with rfl | rfl
    · exact H.out.map.ne H.out.blk rfl
    · obtain ⟨es, cl, h1⟩ := H.out.map.heap
      obtain ⟨-, cur, h2⟩ := H.out.row.row.lt m rfl
      rw [h1] at h2; cases h2
  · rw [hle, her, pcs_app]
    refine HW.out.kept fun q' hq' => Below.heap_setCell _ _ _ _ ?_
    simp only []
    rcases hvq q' hq' with h1 | h1
    · have := Option.some.inj h1; omega
    · omega
  · intro p hp
    exact (H.out.row.by_ p (List.mem_of_mem_eraseIdx hp)).kp hKa hnb
  · intro j hj
    simp at hj
    rcases hj with rfl | rfl <;> exact Or.inl (by simp [foot, Value.ownBlock])
  · intro q' hq'
    rcases hvq q' hq' with h1 | h1
    · exact Or.inl h1
    · exact Or.inr (Nat.le_trans hK5.out.size h1)

end Go.Proofs.Ytoinjmddmahpkaa
