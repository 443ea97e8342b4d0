/- The document's members. -/
import Derived.Test.YtfcmmchppcffmaaDoorNA
import Derived.Test.YtfcmmchppcffmaaDoorNS
namespace Go.Proofs.YtfcmmchppcffmaaDoor
open Go.RowKit Go.Maps Go.ChangeMaps

set_option maxHeartbeats 4000000 in
set_option maxRecDepth 100000 in
theorem members_any (x y : Int) (hy : 0 ≤ y) (v : Value) (l : List Rf) (hl : l.length ≤ 1000) (hbt : ∀ r ∈ l, 0 ≤ r.bt) (w : World) (R : RSl w v l) : Calls Tryd.prog 21 #[(.agg #[.int .i64 (x), .int .u64 (y)]), v] w fun e' w' => ∃ v', e' = .returned v' ∧ Gr5 w.heap.size w' v' (sortL (l.filter fun r => bgS r.ln r.bt x y)) ∧ Below w.heap.size w w' := by
  have mixed : Tryd.prog.follows .mixedOrders = true := by kernel_rfl
  obtain ⟨va, vc, rfl, -, -⟩ := R.shape
  have b1 : Below w.heap.size w (w.alloc (.cells #[.int .i64 x, .int .u64 y] 28)) := (Below.refl _ _).alloc (Nat.le_refl _) _
  have R0 := R.below b1
  have V0 := IsB.new w #[.int .i64 x, .int .u64 y] 28
  have hsz : (w.alloc (.cells #[.int .i64 x, .int .u64 y] 28)).heap.size = w.heap.size + 1 := by simp
  generalize hn : l.length = n at *
  replace hn := hide hn
  go_enter Tryd.func21, Tryd.ntmps21
  go_wp2_with fail
  have hHG : Hid (w.heap.size < (w.alloc (.cells #[.int .i64 x, .int .u64 y] 28)).heap.size) := by show _ < _; omega
  have BW := hide b1
  clear b1 hsz
  generalize hW1 : (w.alloc (.cells #[.int .i64 x, .int .u64 y] 28)) = W1 at *
  clear hW1
  obtain ⟨G, hG⟩ : ∃ G, W1.heap.size = G := ⟨_, rfl⟩
  obtain ⟨H, hH⟩ : ∃ H, w.heap.size = H := ⟨_, rfl⟩
  rw [hH] at V0 hHG ⊢
  have RA : Hid (∀ w', Below G W1 w' → RSl w' (.slice va n vc) l) := fun w' hb => R0.below (hG ▸ hb)
  have VA : Hid (∀ w', Below G W1 w' → IsB w' H #[.int .i64 x, .int .u64 y] 28) := fun w' hb => V0.below (hG ▸ hb)
  have HG : Hid (W1.heap.size = G) := hG
  have HH : Hid (w.heap.size = H) := hH
  have hHG : Hid (H < G) := by show _ < _; rw [← hG]; exact hHG.out
  clear R0 V0 hG hH R
  go_loopw [5, 6] (fun mv i wr => ∃ (j : Nat) (qa : Option Addr) (qc : Nat) (m : List Rf), j ≤ n ∧ i = .int .i64 (j : Int) ∧ mv = .slice qa m.length qc ∧ Hid (m = (l.take j).filter (fun r => bgS r.ln r.bt x y)) ∧ Hid (Gr5 G wr (.slice qa m.length qc) m) ∧ Hid (Below G W1 wr)) (fun _ i _ => n - (intOf i).toNat)
  case atStart => exact ⟨0, none, 0, [], by omega, rfl, rfl, by simp [Hid], Rg.nil _ _ _ _, HG.out ▸ Below.refl _ _⟩
  case round =>
    obtain ⟨j, qa, qc, m, hj, rfl, rfl, HM, RX, B⟩ := hrel
    have hml : m.length ≤ 2000 := by
      have h1 := hn.out
      rw [HM.out]
      have h2 := List.length_filter_le (fun r : Rf => bgS r.ln r.bt x y) (l.take j)
      have h3 : (l.take j).length ≤ l.length := by rw [List.length_take]; omega
      omega
    by_cases hlt : j < n
    rotate_left
    · obtain rfl : j = n := by omega
      have d1 : decide ((j : Int) < j) = false := by simp
      have HF : Hid (m = l.filter (fun r => bgS r.ln r.bt x y)) := by show _ = _; rw [HM.out, List.take_of_length_le (Nat.le_of_eq hn.out)]
      have CS := sorted_any (.slice qa m.length qc) m hml wr RX.out.rsl
      generalize m.length = mn at *
      go_wp2_with fail
      refine CS.mono ?_
      rintro e w5 ⟨v5, rfl, h5, hb⟩
      have B5 : Hid (Below H w w5) := ((HH.out ▸ BW.out).trans (B.out.mono (Nat.le_of_lt hHG.out))).trans (hb.mono (Nat.le_trans (Nat.le_of_lt hHG.out) (by rw [← HG.out]; exact (HG.out.symm ▸ B.out).size)))
      have h6 := hide (h5.mono (Nat.le_trans (Nat.le_of_lt hHG.out) (by rw [← HG.out]; exact (HG.out.symm ▸ B.out).size)))
      clear h5 hb CS
      go_wp2
      go_ret
      exact ⟨_, rfl, by rw [HH.out, ← HF.out]; exact h6.out, HH.out.symm ▸ B5.out⟩
    have hjl : j < l.length := by rw [hn.out]; exact hlt
    have hlt2 : (j : Int) < n := by omega
    obtain ⟨g, o, cap, ev, hcap, -⟩ := (RA.out _ B.out).form (by omega)
    injection ev with ev el ec
    clear el
    subst ev ec
    have LV : Hid (∀ w', Below G W1 w' → (Instr.loadAt 28 (.pointer (some ⟨g, o + j * 5 + 3, none⟩))).run Tryd.prog w' = .ok (.agg #[.int .i64 l[j].ln, .int .u64 l[j].bt]) w') := fun w' hb => (RA.out _ hb).ldv j hjl
    have LR : Hid (∀ w', Below G W1 w' → (Instr.loadAt 30 (.pointer (some ⟨g, o + j * 5, none⟩))).run Tryd.prog w' = .ok (.agg #[.int .i64 l[j].id, .int .i64 l[j].rk, .int .u64 l[j].kn, .int .i64 l[j].ln, .int .u64 l[j].bt]) w') := fun w' hb => (RA.out _ hb).ldr j hjl
    have HT : Hid ((l.take (j + 1)).filter (fun r => bgS r.ln r.bt x y) = m ++ (if bgS l[j].ln l[j].bt x y = true then [l[j]] else [])) := by
      show _ = _
      rw [List.take_succ_eq_append_getElem hjl, List.filter_append, ← HM.out]
      by_cases hq : bgS l[j].ln l[j].bt x y = true <;> simp [hq]
    have hzb := hide (hbt l[j] (List.getElem_mem hjl))
    clear HM
    generalize l[j] = z at *
    go_wp2_with fail
    replace B := hide (B.out.drew)
    replace RX := hide (RX.out.below ((Below.refl _ _).drew))
    have V4 := hide (VA.out _ B.out)
    have L4 := hide (LV.out _ B.out)
    cases hB : bgS z.ln z.bt x y with
    | true =>
      have HT2 : Hid (m ++ [z] = (l.take (j + 1)).filter (fun r => bgS r.ln r.bt x y)) := by show _ = _; rw [HT.out, if_pos hB]
      clear HT
      have HB := hide hB
      clear hB
      refine regionL 7 (fun w' => IsB w' H #[.int .i64 x, .int .u64 y] 28 ∧ (Instr.loadAt 28 (.pointer (some ⟨g, o + j * 5 + 3, none⟩))).run Tryd.prog w' = .ok (.agg #[.int .i64 (z.ln), .int .u64 (z.bt)]) w') mixed ⟨V4.out, L4.out⟩ (fun hHeld => ?_)
      generalize wr.drew = WD at *
      refine pickA (v := ?_) 0 (some 13) rfl rfl (by kernel_rfl) (by kernel_rfl) (by kernel_rfl) (by decide) (fun _ _ _ h => h) (by rfl) ?_ (by assumption) ?_
      rotate_left
      · intro w'
        go_simp
        try with_reducible rfl
      try simp only [Act.put, List.setIfInBounds_toArray, List.set_cons_zero, List.set_cons_succ]
      refine pickA (v := ?_) 1 (some 14) rfl rfl (by kernel_rfl) (by kernel_rfl) (by kernel_rfl) (by decide) (fun _ _ _ h => h) (by rfl) ?_ (by assumption) ?_
      rotate_left
      · intro w'
        go_simp
        try with_reducible rfl
      try simp only [Act.put, List.setIfInBounds_toArray, List.set_cons_zero, List.set_cons_succ]
      refine pickA (v := ?_) 2 (some 15) rfl rfl (by kernel_rfl) (by kernel_rfl) (by kernel_rfl) (by decide) (fun _ _ _ h => h) (by rfl) ?_ (by assumption) ?_
      rotate_left
      · intro w'
        go_simp
        try with_reducible rfl
      try simp only [Act.put, List.setIfInBounds_toArray, List.set_cons_zero, List.set_cons_succ]
      refine pickA (v := ?_) 3 (some 16) rfl rfl (by kernel_rfl) (by kernel_rfl) (by kernel_rfl) (by decide) (fun _ _ _ h => h) (by rfl) ?_ (by assumption) ?_
      rotate_left
      · intro w'
        go_simp
        try with_reducible rfl
      try simp only [Act.put, List.setIfInBounds_toArray, List.set_cons_zero, List.set_cons_succ]
      refine pickL (v := (.agg #[.int .i64 (z.ln), .int .u64 (z.bt)])) 4 (some 17) rfl rfl (by kernel_rfl) (by kernel_rfl) (by kernel_rfl) (by decide) (by kernel_rfl) (by kernel_rfl) (fun _ _ _ h => h) (by rfl) ?_ (by assumption) ?_
      · intro w' hSw
        obtain ⟨q0, q1⟩ := hSw
        exact exec_load rfl rfl q1
      try simp only [Act.put, List.setIfInBounds_toArray, List.set_cons_zero, List.set_cons_succ]
      refine pickL (v := (.agg #[.int .i64 (x), .int .u64 (y)])) 5 (some 18) rfl rfl (by kernel_rfl) (by kernel_rfl) (by kernel_rfl) (by decide) (by kernel_rfl) (by kernel_rfl) (fun _ _ _ h => h) (by rfl) ?_ (by assumption) ?_
      · intro w' hSw
        obtain ⟨q0, q1⟩ := hSw
        exact exec_load rfl rfl (ld_v2 q0)
      try simp only [Act.put, List.setIfInBounds_toArray, List.set_cons_zero, List.set_cons_succ]
      refine oneL (i := 6) (by kernel_rfl) rfl (fun K hK => ?_)
      go_simp
      refine (rBegins_any z.ln z.bt x y hzb.out hy WD).mono ?_
      rintro e w5 ⟨rfl, hb⟩
      rw [HB.out]
      have B2 : Hid (Below G W1 w5) := B.out.trans (hb.mono (by rw [← HG.out]; exact (HG.out.symm ▸ B.out).size))
      replace RX := hide (RX.out.below hb)
      replace B := B2
      clear B2 hb
      have V5 := hide (VA.out _ B.out)
      have L5 := hide (LV.out _ B.out)
      refine hK.out _ _ ?_ ?_
      · exact ⟨V5.out, L5.out⟩
      clear hK K
      try simp only [Act.put, List.setIfInBounds_toArray, List.set_cons_zero, List.set_cons_succ]
      clear hHeld
      have hHeld : (fun w' => IsB w' H #[.int .i64 x, .int .u64 y] 28 ∧ (Instr.loadAt 28 (.pointer (some ⟨g, o + j * 5 + 3, none⟩))).run Tryd.prog w' = .ok (.agg #[.int .i64 (z.ln), .int .u64 (z.bt)]) w') w5 := ⟨V5.out, L5.out⟩
      refine doneL (by kernel_rfl) ?_ _
      clear hHeld
      have LQ := hide (LR.out _ B.out)
      obtain ⟨ra, rc, wA, hap, hRo, hKp⟩ := push_rf RX.out z (by omega) (by rw [← HG.out]; exact (HG.out.symm ▸ B.out).size) 22
      have HAP := hide hap
      have RO := hide hRo
      have B2 : Hid (Below G W1 wA) := B.out.trans hKp
      clear hap hRo hKp RX B V4 L4 V5 L5 LV LR
      generalize hmn : m.length = mn at *
      replace hmn := hide hmn
      go_wp2_with (first | (focus ((with_reducible refine wpList_load_w ?_ 30 (.tmp 23) ?_ ?_ LQ.out ?_); rotate_left; rfl; rfl; rotate_left; rfl)) | (at_builtin; refine wpList_append_eq rfl (.tmp 20) (.tmp 25) 22 rfl _ _ (.slice ra (mn + 1) rc) wA rfl rfl HAP.out ?_))
      exact ⟨⟨j + 1, ra, rc, m ++ [z], by omega, by simp, by simp [hmn.out], HT2, hide (by simpa [hmn.out] using RO.out), B2⟩, by simp [intOf]; omega⟩
    | false =>
      have HT2 : Hid (m = (l.take (j + 1)).filter (fun r => bgS r.ln r.bt x y)) := by show _ = _; rw [HT.out, if_neg (by rw [hB]; decide)]; simp
      clear HT
      have HB := hide hB
      clear hB
      refine regionL 7 (fun w' => IsB w' H #[.int .i64 x, .int .u64 y] 28 ∧ (Instr.loadAt 28 (.pointer (some ⟨g, o + j * 5 + 3, none⟩))).run Tryd.prog w' = .ok (.agg #[.int .i64 (z.ln), .int .u64 (z.bt)]) w') mixed ⟨V4.out, L4.out⟩ (fun hHeld => ?_)
      generalize wr.drew = WD at *
      refine pickA (v := ?_) 0 (some 13) rfl rfl (by kernel_rfl) (by kernel_rfl) (by kernel_rfl) (by decide) (fun _ _ _ h => h) (by rfl) ?_ (by assumption) ?_
      rotate_left
      · intro w'
        go_simp
        try with_reducible rfl
      try simp only [Act.put, List.setIfInBounds_toArray, List.set_cons_zero, List.set_cons_succ]
      refine pickA (v := ?_) 1 (some 14) rfl rfl (by kernel_rfl) (by kernel_rfl) (by kernel_rfl) (by decide) (fun _ _ _ h => h) (by rfl) ?_ (by assumption) ?_
      rotate_left
      · intro w'
        go_simp
        try with_reducible rfl
      try simp only [Act.put, List.setIfInBounds_toArray, List.set_cons_zero, List.set_cons_succ]
      refine pickA (v := ?_) 2 (some 15) rfl rfl (by kernel_rfl) (by kernel_rfl) (by kernel_rfl) (by decide) (fun _ _ _ h => h) (by rfl) ?_ (by assumption) ?_
      rotate_left
      · intro w'
        go_simp
        try with_reducible rfl
      try simp only [Act.put, List.setIfInBounds_toArray, List.set_cons_zero, List.set_cons_succ]
      refine pickA (v := ?_) 3 (some 16) rfl rfl (by kernel_rfl) (by kernel_rfl) (by kernel_rfl) (by decide) (fun _ _ _ h => h) (by rfl) ?_ (by assumption) ?_
      rotate_left
      · intro w'
        go_simp
        try with_reducible rfl
      try simp only [Act.put, List.setIfInBounds_toArray, List.set_cons_zero, List.set_cons_succ]
      refine pickL (v := (.agg #[.int .i64 (z.ln), .int .u64 (z.bt)])) 4 (some 17) rfl rfl (by kernel_rfl) (by kernel_rfl) (by kernel_rfl) (by decide) (by kernel_rfl) (by kernel_rfl) (fun _ _ _ h => h) (by rfl) ?_ (by assumption) ?_
      · intro w' hSw
        obtain ⟨q0, q1⟩ := hSw
        exact exec_load rfl rfl q1
      try simp only [Act.put, List.setIfInBounds_toArray, List.set_cons_zero, List.set_cons_succ]
      refine pickL (v := (.agg #[.int .i64 (x), .int .u64 (y)])) 5 (some 18) rfl rfl (by kernel_rfl) (by kernel_rfl) (by kernel_rfl) (by decide) (by kernel_rfl) (by kernel_rfl) (fun _ _ _ h => h) (by rfl) ?_ (by assumption) ?_
      · intro w' hSw
        obtain ⟨q0, q1⟩ := hSw
        exact exec_load rfl rfl (ld_v2 q0)
      try simp only [Act.put, List.setIfInBounds_toArray, List.set_cons_zero, List.set_cons_succ]
      refine oneL (i := 6) (by kernel_rfl) rfl (fun K hK => ?_)
      go_simp
      refine (rBegins_any z.ln z.bt x y hzb.out hy WD).mono ?_
      rintro e w5 ⟨rfl, hb⟩
      rw [HB.out]
      have B2 : Hid (Below G W1 w5) := B.out.trans (hb.mono (by rw [← HG.out]; exact (HG.out.symm ▸ B.out).size))
      replace RX := hide (RX.out.below hb)
      replace B := B2
      clear B2 hb
      have V5 := hide (VA.out _ B.out)
      have L5 := hide (LV.out _ B.out)
      refine hK.out _ _ ?_ ?_
      · exact ⟨V5.out, L5.out⟩
      clear hK K
      try simp only [Act.put, List.setIfInBounds_toArray, List.set_cons_zero, List.set_cons_succ]
      clear hHeld
      have hHeld : (fun w' => IsB w' H #[.int .i64 x, .int .u64 y] 28 ∧ (Instr.loadAt 28 (.pointer (some ⟨g, o + j * 5 + 3, none⟩))).run Tryd.prog w' = .ok (.agg #[.int .i64 (z.ln), .int .u64 (z.bt)]) w') w5 := ⟨V5.out, L5.out⟩
      refine doneL (by kernel_rfl) ?_ _
      clear hHeld
      go_wp2
      exact ⟨⟨j + 1, qa, qc, m, by omega, by simp, rfl, HT2, RX, B⟩, by simp [intOf]; omega⟩

end Go.Proofs.YtfcmmchppcffmaaDoor
