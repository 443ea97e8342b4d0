/- The document's network: Swap. -/
import Derived.Test.YtoinjmddmahpkaaZF
namespace Go.Proofs.Ytoinjmddmahpkaa
open Go.RowKit Go.Maps

set_option maxHeartbeats 8000000 in
set_option maxRecDepth 100000 in
theorem rswap_ok (b : Nat) (v : Value) (ps : List Pc) (c : Cnt) (k : Nat) (w : World) (h : RS w b v ps c k) (i j : Nat) (hi : i < ps.length) (hj : j < ps.length) :
    Calls Try.prog 29 #[.pointer (some ⟨b, 0, none⟩), .int .i64 (i : Int), .int .i64 (j : Int)] w fun e w' => e = .returned (.int .i64 0) ∧ ∃ v', Rx w w' b v v' (swp ps i j) c k := by
  have mixed : Try.prog.follows .mixedOrders = true := by kernel_rfl
  have e1 : inR ps.length (i : Int) = true := by simp [inR]; omega
  have e2 : inR ps.length (j : Int) = true := by simp [inR]; omega
  have hlen := h.len
  have hsw : swp ps i j = (ps.set i ps[j]).set j ps[i] := by simp [swp, hi, hj]
  rw [hsw]
  clear hsw
  obtain ⟨gv, capv, rfl, hcapv, hmaxv, -, -, -, -, -⟩ := h.cells i hi
  have HPI := hide (show ps[i] ∈ ps from List.getElem_mem hi)
  have HPJ := hide (show ps[j] ∈ ps from List.getElem_mem hj)
  have HCI : Hid (∀ cc, cc < 5 → (pcs ps)[i * 5 + cc]? = ps[i].cs[cc]?) := fun cc hcc => pcs_get ps i hi cc hcc
  have HCJ : Hid (∀ cc, cc < 5 → (pcs ps)[j * 5 + cc]? = ps[j].cs[cc]?) := fun cc hcc => pcs_get ps j hj cc hcc
  generalize hP : ps[i] = P at HPI HCI ⊢
  generalize hR : ps[j] = R at HPJ HCJ ⊢
  clear hP hR
  have H := hide h
  have hb0 := h.blk.cell 0
  simp at hb0
  clear h
  go_enter Try.func29, Try.ntmps29
  go_wp2_with fail
  refine (ris_any b _ ps c k _ _ H.out).mono ?_
  rintro e w1 ⟨rfl, rfl⟩
  rw [e1]
  go_wp2_with fail
  refine (ris_any b _ ps c k _ _ H.out).mono ?_
  rintro e w2 ⟨rfl, rfl⟩
  rw [e2]
  clear e1 e2
  obtain ⟨q0, hq0, hz0, hz1, hz2⟩ := info_parts Try.infoP
  have belA := (Below.refl w2.heap.size w2).alloc (Nat.le_refl _) (.cells #[] 35)
  have hown0 : Rw (w2.alloc (.cells #[] 35)) 35 5 (.slice (some ⟨w2.heap.size, 0, none⟩) 0 0) 0 [] := ⟨rfl, Or.inr ⟨_, 0, #[], rfl, heap_new w2 _, Nat.le_refl _, by unfold maxLen; omega, by simp, rfl⟩⟩
  have RA := H.out.row.row.below belA
  have hnews : ∀ jj u, (pcs ps)[jj]? = some u → (w2.alloc (.cells #[] 35)).cell? ((⟨gv, 0, none⟩ : Addr).add jj) = some u := by
    intro jj u hu
    have hjj := (List.getElem?_eq_some_iff.1 hu).1
    rw [pcs_len] at hjj
    rw [add_none, Nat.zero_add, RA.cellAt jj hjj]
    exact hu
  obtain ⟨v1, W, hrun, hrw, hgr, hat, hnn⟩ := run_append_rw (P := Try.prog) (w2.alloc (.cells #[] 35)) 26 26 35 q0 _ 5 56 Try.underlying26 hq0 hz0 hz1 hz2 rfl
    _ 0 [] hown0 (.slice (some ⟨gv, 0, none⟩) ps.length capv) ps.length (pcs ps) (pcs_len ps) (Or.inl ⟨_, _, rfl, hnews⟩) (pcs_one _) (by unfold maxLen; omega) (by omega)
  rw [Nat.zero_add, List.nil_append] at hrw
  obtain ⟨g, cap, hv1, hg1⟩ : ∃ g cap, v1 = .slice (some ⟨g, 0, none⟩) ps.length cap ∧ w2.heap.size ≤ g := by
    rcases hrw.2 with ⟨h1, -⟩ | ⟨g1, c1, cur, h1, -⟩
    · exact absurd h1 (hnn (by intro h; cases h))
    · refine ⟨g1, c1, h1, ?_⟩
      subst h1
      rcases hat with h2 | h2 <;> simp [Value.ownBlock] at h2 <;> omega
  subst hv1
  have BW : Below w2.heap.size w2 W := belA.grown hgr (by simp) (fun x hx => by simp [Value.ownBlock] at hx; omega)
  have key : ∀ {x : Nat}, x < ps.length * 5 → W.cell? ⟨g, x, none⟩ = (pcs ps)[x]? := fun hx => hrw.cellAt _ hx
  obtain ⟨ifa, ifn, ita, itn, ia, ic, ib⟩ := P
  obtain ⟨kfa, kfn, kta, ktn, ka, kc, kb⟩ := R
  generalize hil : ib.length = il at *
  generalize hkl : kb.length = kl at *
  have HSW : Hid ((fun w' => w'.cell? ⟨g, i * 5, none⟩ = some (.bool ifa) ∧ w'.cell? ⟨g, i * 5 + 1, none⟩ = some (.int .i64 ifn) ∧ w'.cell? ⟨g, i * 5 + 2, none⟩ = some (.bool ita) ∧ w'.cell? ⟨g, i * 5 + 3, none⟩ = some (.int .i64 itn) ∧ w'.cell? ⟨g, i * 5 + 4, none⟩ = some (.slice ia il ic) ∧ w'.cell? ⟨g, j * 5, none⟩ = some (.bool kfa) ∧ w'.cell? ⟨g, j * 5 + 1, none⟩ = some (.int .i64 kfn) ∧ w'.cell? ⟨g, j * 5 + 2, none⟩ = some (.bool kta) ∧ w'.cell? ⟨g, j * 5 + 3, none⟩ = some (.int .i64 ktn) ∧ w'.cell? ⟨g, j * 5 + 4, none⟩ = some (.slice ka kl kc)) W) := by
    refine ⟨?_, ?_, ?_, ?_, ?_, ?_, ?_, ?_, ?_, ?_⟩
    · exact (key (by omega)).trans (HCI.out 0 (by omega))
    · exact (key (by omega)).trans (HCI.out 1 (by omega))
    · exact (key (by omega)).trans (HCI.out 2 (by omega))
    · exact (key (by omega)).trans (HCI.out 3 (by omega))
    · rw [← hil]; exact (key (by omega)).trans (HCI.out 4 (by omega))
    · exact (key (by omega)).trans (HCJ.out 0 (by omega))
    · exact (key (by omega)).trans (HCJ.out 1 (by omega))
    · exact (key (by omega)).trans (HCJ.out 2 (by omega))
    · exact (key (by omega)).trans (HCJ.out 3 (by omega))
    · rw [← hkl]; exact (key (by omega)).trans (HCJ.out 4 (by omega))
  have HS0 : Hid ((fun w' => w'.cell? ⟨g, i * 5, none⟩ = some (.bool ifa) ∧ w'.cell? ⟨g, i * 5 + 1, none⟩ = some (.int .i64 ifn) ∧ w'.cell? ⟨g, i * 5 + 2, none⟩ = some (.bool ita) ∧ w'.cell? ⟨g, i * 5 + 3, none⟩ = some (.int .i64 itn) ∧ w'.cell? ⟨g, i * 5 + 4, none⟩ = some (.slice ia il ic) ∧ w'.cell? ⟨g, j * 5, none⟩ = some (.bool kfa) ∧ w'.cell? ⟨g, j * 5 + 1, none⟩ = some (.int .i64 kfn) ∧ w'.cell? ⟨g, j * 5 + 2, none⟩ = some (.bool kta) ∧ w'.cell? ⟨g, j * 5 + 3, none⟩ = some (.int .i64 ktn) ∧ w'.cell? ⟨g, j * 5 + 4, none⟩ = some (.slice ka kl kc)) W.drew) := HSW.out
  have HR := hide hrw
  have HF := hide hrw.frozenAt
  have HRUN := hide hrun
  have HBW := hide BW
  have hblt : Hid (b < w2.heap.size) := H.out.blk.lt
  have hbl2 : b < w2.heap.size := hblt.out
  clear hrun hrw hgr hat hnn hnews RA hown0 belA BW hq0 hz0 hz1 hz2 key
  generalize hn : ps.length = n at *
  replace hn := hide hn
  replace hil := hide hil
  replace hkl := hide hkl
  go_wp2_with (at_builtin; refine wpList_append_eq rfl (.tmp 18) (.tmp 22) 26 rfl _ _ (.slice (some ⟨g, 0, none⟩) n cap) W rfl rfl HRUN.out ?_)
  refine regionL 13 (fun w' => w'.cell? ⟨g, i * 5, none⟩ = some (.bool ifa) ∧ w'.cell? ⟨g, i * 5 + 1, none⟩ = some (.int .i64 ifn) ∧ w'.cell? ⟨g, i * 5 + 2, none⟩ = some (.bool ita) ∧ w'.cell? ⟨g, i * 5 + 3, none⟩ = some (.int .i64 itn) ∧ w'.cell? ⟨g, i * 5 + 4, none⟩ = some (.slice ia il ic) ∧ w'.cell? ⟨g, j * 5, none⟩ = some (.bool kfa) ∧ w'.cell? ⟨g, j * 5 + 1, none⟩ = some (.int .i64 kfn) ∧ w'.cell? ⟨g, j * 5 + 2, none⟩ = some (.bool kta) ∧ w'.cell? ⟨g, j * 5 + 3, none⟩ = some (.int .i64 ktn) ∧ w'.cell? ⟨g, j * 5 + 4, none⟩ = some (.slice ka kl kc)) mixed HS0.out (fun hHeld => ?_)
  refine pickA (v := ?_) 0 (some 24) rfl rfl (by kernel_rfl) (by kernel_rfl) (by kernel_rfl) (by decide) (fun _ _ _ h => h) (by rfl) ?_ (by assumption) ?_
  rotate_left
  · intro w'
    go_simp
    try with_reducible rfl
  try simp only [Act.put, List.setIfInBounds_toArray, List.set_cons_zero, List.set_cons_succ]
  refine pickA (v := ?_) 1 (some 25) rfl rfl (by kernel_rfl) (by kernel_rfl) (by kernel_rfl) (by decide) (fun _ _ _ h => h) (by rfl) ?_ (by assumption) ?_
  rotate_left
  · intro w'
    go_simp
    try with_reducible rfl
  try simp only [Act.put, List.setIfInBounds_toArray, List.set_cons_zero, List.set_cons_succ]
  refine pickA (v := ?_) 2 (some 26) rfl rfl (by kernel_rfl) (by kernel_rfl) (by kernel_rfl) (by decide) (fun _ _ _ h => h) (by rfl) ?_ (by assumption) ?_
  rotate_left
  · intro w'
    go_simp
    try with_reducible rfl
  try simp only [Act.put, List.setIfInBounds_toArray, List.set_cons_zero, List.set_cons_succ]
  refine pickA (v := ?_) 3 (some 27) rfl rfl (by kernel_rfl) (by kernel_rfl) (by kernel_rfl) (by decide) (fun _ _ _ h => h) (by rfl) ?_ (by assumption) ?_
  rotate_left
  · intro w'
    go_simp
    try with_reducible rfl
  try simp only [Act.put, List.setIfInBounds_toArray, List.set_cons_zero, List.set_cons_succ]
  refine pickA (v := ?_) 4 (some 28) rfl rfl (by kernel_rfl) (by kernel_rfl) (by kernel_rfl) (by decide) (fun _ _ _ h => h) (by rfl) ?_ (by assumption) ?_
  rotate_left
  · intro w'
    go_simp
    try with_reducible rfl
  try simp only [Act.put, List.setIfInBounds_toArray, List.set_cons_zero, List.set_cons_succ]
  refine pickA (v := ?_) 5 (some 29) rfl rfl (by kernel_rfl) (by kernel_rfl) (by kernel_rfl) (by decide) (fun _ _ _ h => h) (by rfl) ?_ (by assumption) ?_
  rotate_left
  · intro w'
    go_simp
    try with_reducible rfl
  try simp only [Act.put, List.setIfInBounds_toArray, List.set_cons_zero, List.set_cons_succ]
  refine pickA (v := ?_) 6 (some 30) rfl rfl (by kernel_rfl) (by kernel_rfl) (by kernel_rfl) (by decide) (fun _ _ _ h => h) (by rfl) ?_ (by assumption) ?_
  rotate_left
  · intro w'
    go_simp
    try with_reducible rfl
  try simp only [Act.put, List.setIfInBounds_toArray, List.set_cons_zero, List.set_cons_succ]
  refine pickL (v := ?_) 7 (some 31) rfl rfl (by kernel_rfl) (by kernel_rfl) (by kernel_rfl) (by decide) (by kernel_rfl) (by kernel_rfl) (fun _ _ _ h => h) (by rfl) ?_ (by assumption) ?_
  rotate_left
  · intro w' hSw
    obtain ⟨i0, i1, i2, i3, i4, j0, j1, j2, j3, j4⟩ := hSw
    go_simp
    try with_reducible rfl
  try simp only [Act.put, List.setIfInBounds_toArray, List.set_cons_zero, List.set_cons_succ]
  refine pickA (v := ?_) 8 (some 32) rfl rfl (by kernel_rfl) (by kernel_rfl) (by kernel_rfl) (by decide) (fun _ _ _ h => h) (by rfl) ?_ (by assumption) ?_
  rotate_left
  · intro w'
    go_simp
    try with_reducible rfl
  try simp only [Act.put, List.setIfInBounds_toArray, List.set_cons_zero, List.set_cons_succ]
  refine pickA (v := ?_) 9 (some 33) rfl rfl (by kernel_rfl) (by kernel_rfl) (by kernel_rfl) (by decide) (fun _ _ _ h => h) (by rfl) ?_ (by assumption) ?_
  rotate_left
  · intro w'
    go_simp
    try with_reducible rfl
  try simp only [Act.put, List.setIfInBounds_toArray, List.set_cons_zero, List.set_cons_succ]
  refine pickA (v := ?_) 10 (some 34) rfl rfl (by kernel_rfl) (by kernel_rfl) (by kernel_rfl) (by decide) (fun _ _ _ h => h) (by rfl) ?_ (by assumption) ?_
  rotate_left
  · intro w'
    go_simp
    try with_reducible rfl
  try simp only [Act.put, List.setIfInBounds_toArray, List.set_cons_zero, List.set_cons_succ]
  refine pickL (v := ?_) 11 (some 35) rfl rfl (by kernel_rfl) (by kernel_rfl) (by kernel_rfl) (by decide) (by kernel_rfl) (by kernel_rfl) (fun _ _ _ h => h) (by rfl) ?_ (by assumption) ?_
  rotate_left
  · intro w' hSw
    obtain ⟨i0, i1, i2, i3, i4, j0, j1, j2, j3, j4⟩ := hSw
    go_simp
    try with_reducible rfl
  try simp only [Act.put, List.setIfInBounds_toArray, List.set_cons_zero, List.set_cons_succ]
  refine pickA (v := ?_) 12 (some 36) rfl rfl (by kernel_rfl) (by kernel_rfl) (by kernel_rfl) (by decide) (fun _ _ _ h => h) (by rfl) ?_ (by assumption) ?_
  rotate_left
  · intro w'
    go_simp
    try with_reducible rfl
  try simp only [Act.put, List.setIfInBounds_toArray, List.set_cons_zero, List.set_cons_succ]
  refine lateL (i := 13) (by kernel_rfl) rfl (by decide) (by kernel_rfl) (fun K hK => ?_)
  have f0 := HF.out (i * 5)
  have f1 := HF.out (i * 5 + 1)
  have f2 := HF.out (i * 5 + 2)
  have f3 := HF.out (i * 5 + 3)
  have f4 := HF.out (i * 5 + 4)
  obtain ⟨i0, i1, i2, i3, i4, j0, j1, j2, j3, j4⟩ := HSW.out
  go_simp
  refine hK.out _ _ ?_
  clear hK K
  try simp only [Act.put]
  clear f0 f1 f2 f3 f4 i0 i1 i2 i3 i4 j0 j1 j2 j3 j4
  generalize hW5 : (((((W.setCell ⟨g, i * 5, none⟩ (.bool kfa)).setCell ⟨g, i * 5 + 1, none⟩ (.int .i64 kfn)).setCell ⟨g, i * 5 + 2, none⟩ (.bool kta)).setCell ⟨g, i * 5 + 3, none⟩ (.int .i64 ktn)).setCell ⟨g, i * 5 + 4, none⟩ (.slice ka kl kc)).drew = W5
  have R5 := hide ((HR.out.stored5 (i * 5) (.bool kfa) (.int .i64 kfn) (.bool kta) (.int .i64 ktn) (.slice ka kl kc)).drew)
  have K5 := hide (put5at_kp W g (i * 5) (.bool kfa) (.int .i64 kfn) (.bool kta) (.int .i64 ktn) (.slice ka kl kc)).drew
  dsimp only [put5at] at R5 K5
  rw [hW5] at R5 K5
  obtain ⟨u0, g0⟩ := R5.out.some (j * 5) (by omega)
  have f0 := R5.out.frozenAt (j * 5)
  obtain ⟨u1, g1⟩ := R5.out.some (j * 5 + 1) (by omega)
  have f1 := R5.out.frozenAt (j * 5 + 1)
  obtain ⟨u2, g2⟩ := R5.out.some (j * 5 + 2) (by omega)
  have f2 := R5.out.frozenAt (j * 5 + 2)
  obtain ⟨u3, g3⟩ := R5.out.some (j * 5 + 3) (by omega)
  have f3 := R5.out.frozenAt (j * 5 + 3)
  obtain ⟨u4, g4⟩ := R5.out.some (j * 5 + 4) (by omega)
  have f4 := R5.out.frozenAt (j * 5 + 4)
  refine lateL (i := 14) (by kernel_rfl) rfl (by decide) (by kernel_rfl) (fun K hK => ?_)
  go_simp
  refine hK.out _ _ ?_
  clear hK K
  try simp only [Act.put]
  refine lateL (i := 15) (by kernel_rfl) rfl (by decide) (by kernel_rfl) (fun K hK => ?_)
  go_simp
  refine hK.out _ _ ?_
  clear hK K
  try simp only [Act.put]
  refine doneL (by kernel_rfl) ?_ _
  have R6 := R5.out.stored5 (j * 5) (.bool ifa) (.int .i64 ifn) (.bool ita) (.int .i64 itn) (.slice ia il ic)
  have K6 := put5at_kp W5 g (j * 5) (.bool ifa) (.int .i64 ifn) (.bool ita) (.int .i64 itn) (.slice ia il ic)
  have hK : Kp [g] W (put5at W5 g (j * 5) (.bool ifa) (.int .i64 ifn) (.bool ita) (.int .i64 itn) (.slice ia il ic)) := K5.out.trans K6 (by simp)
  rw [← hil.out] at R6
  have e1 := pcs_set ps i (by rw [hn.out]; exact hi) ⟨kfa, kfn, kta, ktn, ka, kc, kb⟩
  have e2 := pcs_set (ps.set i ⟨kfa, kfn, kta, ktn, ka, kc, kb⟩) j (by rw [List.length_set, hn.out]; exact hj) ⟨ifa, ifn, ita, itn, ia, ic, ib⟩
  simp only [] at e1 e2
  rw [hkl.out] at e1
  rw [e1, e2] at R6
  rw [hil.out] at R6
  have B7 := HBW.out.trans (hK.to_below HBW.out.size (by simp; exact hg1))
  have hB7 := H.out.blk.below B7
  have c7 := hB7.cell 0
  have f7 := hB7.free 0
  simp at c7
  dsimp only [put5at] at R6 B7 hB7 c7 f7
  generalize ((((W5.setCell ⟨g, j * 5, none⟩ (.bool ifa)).setCell ⟨g, j * 5 + 1, none⟩ (.int .i64 ifn)).setCell ⟨g, j * 5 + 2, none⟩ (.bool ita)).setCell ⟨g, j * 5 + 3, none⟩ (.int .i64 itn)).setCell ⟨g, j * 5 + 4, none⟩ (.slice ia il ic) = W7 at *
  have HR6 := hide R6
  have HB7 := hide B7
  have HI7 := hide hB7
  clear R6 B7 hB7 K6 hK
  go_wp2
  go_ret
  refine ⟨rfl, .slice (some ⟨g, 0, none⟩) n cap, ?_⟩
  have hkS : Kp [b] W7 (W7.setCell ⟨b, 0, none⟩ (.slice (some ⟨g, 0, none⟩) n cap)) := (Kp.refl _ W7).set _ _ (Or.inl (by simp))
  have hnb : NoBy W7 [b] := fun x hx => (H.out.below HB7.out).noBy x (by simp at hx; subst hx; simp [rfoot])
  refine ⟨⟨?_, ⟨?_, ?_⟩, by rw [List.length_set, List.length_set]; exact H.out.len, H.out.c0, H.out.c1⟩, (Kp.of_below HB7.out).set _ _ (Or.inl (by simp [rfoot])), fun x hx => Or.inr (by simp [Value.ownBlock] at hx; omega)⟩
  · have := HI7.out.set 0 (.slice (some ⟨g, 0, none⟩) n cap)
    simpa using this
  · rw [List.length_set, List.length_set, hn.out]
    exact HR6.out.kept fun x hx => Below.heap_setCell _ _ _ _ (by simp [Value.ownBlock] at hx; simp only []; omega)
  · intro p hp
    have hp2 : p ∈ ps := by
      rcases List.mem_or_eq_of_mem_set hp with h1 | h1
      · rcases List.mem_or_eq_of_mem_set h1 with h2 | h2
        · exact h2
        · rw [h2]; exact HPJ.out
      · rw [h1]; exact HPI.out
    exact ((H.out.row.by_ p hp2).below HB7.out).kp hkS hnb

end Go.Proofs.Ytoinjmddmahpkaa
