/- The document's network: off, Take, Twin, Drop. -/
import Derived.Test.YtoinjmddmahpkaaZA
namespace Go.Proofs.Ytoinjmddmahpkaa
open Go.RowKit Go.Maps

set_option maxHeartbeats 8000000 in
set_option maxRecDepth 100000 in
theorem off_any (b : Nat) (v : Value) (ps : List Pc) (c : Cnt) (k : Nat) (w : World) (h : RS w b v ps c k) (i : Nat) (hi : i < ps.length) :
    Calls Try.prog 42 #[.pointer (some ⟨b, 0, none⟩), .int .i64 (i : Int)] w fun e w' => e = .returned (.tuple #[]) ∧ ∃ v', Rx w w' b v v' (ps.eraseIdx i) c k := by
  have mixed : Try.prog.follows .mixedOrders = true := by kernel_rfl
  have hlen := h.len
  obtain ⟨g, cap, rfl, hcap, hmax, -, -, -, -, -⟩ := h.cells i hi
  have H := hide h
  have hgb : b ≠ g := by
    intro e
    have h1 := H.out.blk
    obtain ⟨-, cur, h2⟩ := H.out.row.row.lt g rfl
    unfold IsB at h1
    rw [e, h2] at h1
    injection h1 with h1
    injection h1 with _ h1
    cases h1
  clear h
  generalize hn : ps.length = n at *
  replace hn := hide hn
  have HS0 : Hid (w.drew.cell? ⟨b, 0, none⟩ = some (.slice (some ⟨g, 0, none⟩) n cap)) := H.out.blk.cell 0
  have hic : i ≤ cap := by omega
  have hin : i ≤ n := by omega
  obtain ⟨q, hq⟩ : ∃ q : Nat, q = i + 1 := ⟨_, rfl⟩
  have hqn : q ≤ n := by omega
  have hwr : Hid (IntKind.i64.wrap ((i : Int) + 1) = (q : Int)) := by
    show _ = _
    rw [IntKind.wrap_i64]; omega
  replace hq := hide hq
  obtain ⟨i0, hi0, hz0, hz1, hz2⟩ := info_parts Try.infoP
  have belA := ((Below.refl w.heap.size w).drew).alloc (Nat.le_refl _) (.cells #[] 35)
  have R0 : Rw w 35 5 (.slice (some ⟨g, 0, none⟩) n cap) n (pcs ps) := by have := H.out.row.row; rw [hn.out] at this; exact this
  have RA := R0.below belA
  have hown0 : Rw (w.drew.alloc (.cells #[] 35)) 35 5 (.slice (some ⟨w.heap.size, 0, none⟩) 0 0) 0 [] := ⟨rfl, Or.inr ⟨_, 0, #[], rfl, heap_new w.drew _, Nat.le_refl _, by unfold maxLen; omega, by simp, rfl⟩⟩
  have hnews1 : ∀ j u, (pcs (ps.take i))[j]? = some u → (w.drew.alloc (.cells #[] 35)).cell? ((⟨g, 0, none⟩ : Addr).add j) = some u := by
    intro j u hu
    have hj := (List.getElem?_eq_some_iff.1 hu).1
    rw [pcs_len, List.length_take, hn.out] at hj
    rw [add_none, Nat.zero_add, RA.cellAt j (by omega)]
    rw [← pcs_take, List.getElem?_take] at hu
    split at hu
    · exact hu
    · cases hu
  obtain ⟨v1, w4, hrun1, hrw1, hgr1, hat1, hnn1⟩ := run_append_rw (P := Try.prog) (w.drew.alloc (.cells #[] 35)) 26 26 35 i0 _ 5 56 Try.underlying26 hi0 hz0 hz1 hz2 rfl
    _ 0 [] hown0 (.slice (some ⟨g, 0, none⟩) i cap) i (pcs (ps.take i)) (by rw [pcs_len, List.length_take, hn.out]; omega) (Or.inl ⟨_, _, rfl, hnews1⟩) (pcs_one _) (by unfold maxLen; omega) (by omega)
  rw [Nat.zero_add, List.nil_append] at hrw1
  obtain ⟨g1, c1, hv1, hg1⟩ : ∃ g1 c1, v1 = .slice (some ⟨g1, 0, none⟩) i c1 ∧ w.heap.size ≤ g1 := by
    rcases hrw1.2 with ⟨h1, -⟩ | ⟨g1, c1, cur, h1, -⟩
    · exact absurd h1 (hnn1 (by intro h; cases h))
    · refine ⟨g1, c1, h1, ?_⟩
      subst h1
      rcases hat1 with h2 | h2 <;> simp [Value.ownBlock] at h2 <;> omega
  subst hv1
  have bel4 : Below w.heap.size w w4 := belA.grown hgr1 (by simp) (fun x hx => by simp [Value.ownBlock] at hx; omega)
  have R4 := R0.below bel4
  have hnews2 : ∀ j u, (pcs (ps.drop q))[j]? = some u → w4.cell? ((if cap = q then (⟨g, 0, none⟩ : Addr) else ⟨g, q * 5, none⟩).add j) = some u := by
    intro j u hu
    have hj := (List.getElem?_eq_some_iff.1 hu).1
    rw [pcs_len, List.length_drop, hn.out] at hj
    rw [if_neg (by omega), add_none, R4.cellAt (q * 5 + j) (by omega), ← List.getElem?_drop, pcs_drop]
    exact hu
  obtain ⟨v2, w5, hrun2, hrw2, hgr2, hat2, -⟩ := run_append_rw (P := Try.prog) w4 26 26 35 i0 _ 5 56 Try.underlying26 hi0 hz0 hz1 hz2 rfl
    _ i (pcs (ps.take i)) hrw1 (.slice (if cap = q then some ⟨g, 0, none⟩ else some ⟨g, q * 5, none⟩) (n - q) (cap - q)) (n - q) (pcs (ps.drop q))
    (by rw [pcs_len, List.length_drop, hn.out]) (Or.inl ⟨if cap = q then ⟨g, 0, none⟩ else ⟨g, q * 5, none⟩, cap - q, by split <;> rfl, hnews2⟩) (pcs_one _) (by unfold maxLen; omega) (by omega)
  obtain ⟨va, vc, rfl, -, -⟩ := hrw2.shape
  generalize hln : i + (n - q) = ln at *
  replace hln := hide hln
  have bel5 : Below w.heap.size w w5 := bel4.grown hgr2 bel4.size (fun x hx => by simp [Value.ownBlock] at hx; omega)
  have hvq : Hid (∀ q', (Value.slice va ln vc).ownBlock = some q' → w.heap.size ≤ q') := fun q' hq' => by
    rcases hat2 with h1 | h1
    · rw [h1] at hq'; simp [Value.ownBlock] at hq'; omega
    · rw [h1] at hq'
      have := Option.some.inj hq'
      have := bel4.size
      omega
  have HR1 := hide hrun1
  have HR2 := hide hrun2
  have HW2 := hide hrw2
  have HSA : Hid ((w.drew.alloc (.cells #[] 35)).cell? ⟨b, 0, none⟩ = some (.slice (some ⟨g, 0, none⟩) n cap)) := (H.out.blk.below belA).cell 0
  have HS4 : Hid (w4.cell? ⟨b, 0, none⟩ = some (.slice (some ⟨g, 0, none⟩) n cap)) := (H.out.blk.below bel4).cell 0
  have hB5 := hide (H.out.blk.below bel5)
  have HS5 : Hid (w5.cell? ⟨b, 0, none⟩ = some (.slice (some ⟨g, 0, none⟩) n cap)) := hB5.out.cell 0
  have hc5 : w5.cell? ⟨b, 0, none⟩ = some (.slice (some ⟨g, 0, none⟩) n cap) := HS5.out
  have hf5 := hB5.out.free 0
  have HB5 := hide bel5
  clear hrun1 hrun2 hrw1 hrw2 hgr1 hgr2 hat1 hat2 hnn1 hnews1 hnews2 hown0 RA R0 R4 belA bel4 bel5 hi0 hz0 hz1 hz2
  go_enter Try.func42, Try.ntmps42
  go_wp2
  refine regionL 19 (fun w' => w'.cell? ⟨b, 0, none⟩ = some (.slice (some ⟨g, 0, none⟩) n cap)) mixed HS0.out (fun hHeld => ?_)
  refine pickA (v := ?_) 0 (some 4) rfl rfl (by kernel_rfl) (by kernel_rfl) (by kernel_rfl) (by decide) (fun _ _ _ h => h) (by rfl) ?_ (by assumption) ?_
  rotate_left
  · intro w'
    go_simp
    try with_reducible rfl
  try simp only [Act.put, List.setIfInBounds_toArray, List.set_cons_zero, List.set_cons_succ]
  refine pickA (v := ?_) 2 (some 6) rfl rfl (by kernel_rfl) (by kernel_rfl) (by kernel_rfl) (by decide) (fun _ _ _ h => h) (by rfl) ?_ (by assumption) ?_
  rotate_left
  · intro w'
    go_simp
    try with_reducible rfl
  try simp only [Act.put, List.setIfInBounds_toArray, List.set_cons_zero, List.set_cons_succ]
  refine pickA (v := ?_) 3 (some 7) rfl rfl (by kernel_rfl) (by kernel_rfl) (by kernel_rfl) (by decide) (fun _ _ _ h => h) (by rfl) ?_ (by assumption) ?_
  rotate_left
  · intro w'
    go_simp
    try with_reducible rfl
  try simp only [Act.put, List.setIfInBounds_toArray, List.set_cons_zero, List.set_cons_succ]
  refine pickA (v := ?_) 4 (some 8) rfl rfl (by kernel_rfl) (by kernel_rfl) (by kernel_rfl) (by decide) (fun _ _ _ h => h) (by rfl) ?_ (by assumption) ?_
  rotate_left
  · intro w'
    go_simp
    try with_reducible rfl
  try simp only [Act.put, List.setIfInBounds_toArray, List.set_cons_zero, List.set_cons_succ]
  refine pickL (v := ?_) 5 (some 9) rfl rfl (by kernel_rfl) (by kernel_rfl) (by kernel_rfl) (by decide) (by kernel_rfl) (by kernel_rfl) (fun _ _ _ h => h) (by rfl) ?_ (by assumption) ?_
  rotate_left
  · intro w' hSw
    go_simp
    try with_reducible rfl
  try simp only [Act.put, List.setIfInBounds_toArray, List.set_cons_zero, List.set_cons_succ]
  refine pickA (v := ?_) 6 (some 10) rfl rfl (by kernel_rfl) (by kernel_rfl) (by kernel_rfl) (by decide) (fun _ _ _ h => h) (by rfl) ?_ (by assumption) ?_
  rotate_left
  · intro w'
    go_simp
    try with_reducible rfl
  try simp only [Act.put, List.setIfInBounds_toArray, List.set_cons_zero, List.set_cons_succ]
  refine pickA (v := .slice (some ⟨g, 0, none⟩) i cap) 7 (some 11) rfl rfl (by kernel_rfl) (by kernel_rfl) (by kernel_rfl) (by decide) (fun _ _ _ h => h) (by rfl) ?_ (by assumption) ?_
  · intro w'
    go_simp
  try simp only [Act.put, List.setIfInBounds_toArray, List.set_cons_zero, List.set_cons_succ]
  refine pickA (v := ?_) 9 (some 13) rfl rfl (by kernel_rfl) (by kernel_rfl) (by kernel_rfl) (by decide) (fun _ _ _ h => h) (by rfl) ?_ (by assumption) ?_
  rotate_left
  · intro w'
    go_simp
    try with_reducible rfl
  try simp only [Act.put, List.setIfInBounds_toArray, List.set_cons_zero, List.set_cons_succ]
  refine pickA (v := ?_) 10 (some 14) rfl rfl (by kernel_rfl) (by kernel_rfl) (by kernel_rfl) (by decide) (fun _ _ _ h => h) (by rfl) ?_ (by assumption) ?_
  rotate_left
  · intro w'
    go_simp
    try with_reducible rfl
  try simp only [Act.put, List.setIfInBounds_toArray, List.set_cons_zero, List.set_cons_succ]
  refine pickA (v := ?_) 11 (some 15) rfl rfl (by kernel_rfl) (by kernel_rfl) (by kernel_rfl) (by decide) (fun _ _ _ h => h) (by rfl) ?_ (by assumption) ?_
  rotate_left
  · intro w'
    go_simp
    try with_reducible rfl
  try simp only [Act.put, List.setIfInBounds_toArray, List.set_cons_zero, List.set_cons_succ]
  refine pickL (v := ?_) 12 (some 16) rfl rfl (by kernel_rfl) (by kernel_rfl) (by kernel_rfl) (by decide) (by kernel_rfl) (by kernel_rfl) (fun _ _ _ h => h) (by rfl) ?_ (by assumption) ?_
  rotate_left
  · intro w' hSw
    go_simp
    try with_reducible rfl
  try simp only [Act.put, List.setIfInBounds_toArray, List.set_cons_zero, List.set_cons_succ]
  refine pickA (v := ?_) 13 (some 17) rfl rfl (by kernel_rfl) (by kernel_rfl) (by kernel_rfl) (by decide) (fun _ _ _ h => h) (by rfl) ?_ (by assumption) ?_
  rotate_left
  · intro w'
    go_simp
    try with_reducible rfl
  try simp only [Act.put, List.setIfInBounds_toArray, List.set_cons_zero, List.set_cons_succ]
  refine pickA (v := .int .i64 (q : Int)) 14 (some 18) rfl rfl (by kernel_rfl) (by kernel_rfl) (by kernel_rfl) (by decide) (fun _ _ _ h => h) (by rfl) ?_ (by assumption) ?_
  · intro w'
    go_simp
    rw [hwr.out]
  try simp only [Act.put, List.setIfInBounds_toArray, List.set_cons_zero, List.set_cons_succ]
  refine pickA (v := .slice (if cap = q then some ⟨g, 0, none⟩ else some ⟨g, q * 5, none⟩) (n - q) (cap - q)) 15 (some 19) rfl rfl (by kernel_rfl) (by kernel_rfl) (by kernel_rfl) (by decide) (fun _ _ _ h => h) (by rfl) ?_ (by assumption) ?_
  · intro w'
    go_simp
  try simp only [Act.put, List.setIfInBounds_toArray, List.set_cons_zero, List.set_cons_succ]
  refine oneL (i := 1) (by kernel_rfl) rfl (fun K hK => ?_)
  go_simp
  refine hK.out _ _ ?_ ?_
  · exact HSA.out
  clear hK K
  try simp only [Act.put, List.setIfInBounds_toArray, List.set_cons_zero, List.set_cons_succ]
  clear hHeld
  have hHeld := HSA.out
  refine oneL (i := 8) (by kernel_rfl) rfl (fun K hK => ?_)
  refine step_append_eq rfl (.tmp 5) (.tmp 11) 26 rfl _ _ (.slice (some ⟨g1, 0, none⟩) i c1) w4 rfl rfl HR1.out ?_
  refine hK.out _ _ ?_ ?_
  · exact HS4.out
  clear hK K
  try simp only [Act.put, List.setIfInBounds_toArray]
  clear hHeld
  have hHeld := HS4.out
  refine oneL (i := 16) (by kernel_rfl) rfl (fun K hK => ?_)
  refine step_append_eq rfl (.tmp 12) (.tmp 19) 26 rfl _ _ (.slice va ln vc) w5 rfl rfl HR2.out ?_
  refine hK.out _ _ ?_ ?_
  · exact HS5.out
  clear hK K
  try simp only [Act.put]
  clear hHeld
  have hHeld := HS5.out
  refine pickA (v := ?_) 17 (some 21) rfl rfl (by kernel_rfl) (by kernel_rfl) (by kernel_rfl) (by decide) (fun _ _ _ h => h) (by rfl) ?_ (by assumption) ?_
  rotate_left
  · intro w'
    go_simp
    try with_reducible rfl
  try simp only [Act.put]
  refine pickA (v := ?_) 18 (some 22) rfl rfl (by kernel_rfl) (by kernel_rfl) (by kernel_rfl) (by decide) (fun _ _ _ h => h) (by rfl) ?_ (by assumption) ?_
  rotate_left
  · intro w'
    go_simp
    try with_reducible rfl
  try simp only [Act.put]
  refine lateL (i := 19) (by kernel_rfl) rfl (by decide) (by kernel_rfl) (fun K hK => ?_)
  go_simp
  refine hK.out _ _ ?_
  clear hK K
  try simp only [Act.put]
  refine doneL (by kernel_rfl) ?_ _
  refine bodyPost_end (results_none rfl _ _ _) rfl ?_
  refine ⟨rfl, .slice va ln vc, ?_⟩
  have hblt : b < w.heap.size := H.out.blk.lt
  have hkS : Kp [b] w5 (w5.setCell ⟨b, 0, none⟩ (.slice va ln vc)) := (Kp.refl _ w5).set _ _ (Or.inl (by simp))
  have hnb : NoBy w5 [b] := fun x hx => (H.out.below HB5.out).noBy x (by simp at hx; subst hx; simp [rfoot])
  have her : ps.eraseIdx i = ps.take i ++ ps.drop q := by rw [hq.out]; exact List.eraseIdx_eq_take_drop_succ ps i
  have hle : (ps.eraseIdx i).length = ln := by have := hq.out; rw [her, List.length_append, List.length_take, List.length_drop, hn.out, ← hln.out]; omega
  refine ⟨⟨?_, ⟨?_, ?_⟩, by have := hq.out; rw [hle, ← hln.out]; omega, H.out.c0, H.out.c1⟩, (Kp.of_below HB5.out).set _ _ (Or.inl (by simp [rfoot])), fun x hx => Or.inr (hvq.out x hx)⟩
  · have := hB5.out.set 0 (.slice va ln vc)
    simpa using this
  · rw [hle, her, pcs_app]
    exact HW2.out.kept fun x hx => Below.heap_setCell _ _ _ _ (by have := hvq.out x hx; simp only []; omega)
  · intro p hp
    exact ((H.out.row.by_ p (List.mem_of_mem_eraseIdx hp)).below HB5.out).kp hkS hnb

end Go.Proofs.Ytoinjmddmahpkaa
