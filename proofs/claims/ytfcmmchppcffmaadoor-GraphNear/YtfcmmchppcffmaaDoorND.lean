/- The document's Row. -/
import Derived.Test.YtfcmmchppcffmaaDoorNB
namespace Go.Proofs.YtfcmmchppcffmaaDoor
open Go.RowKit Go.Maps Go.ChangeMaps





set_option maxHeartbeats 8000000 in
set_option maxRecDepth 100000 in
theorem row_doc (h x y : Int) (h0 : 0 ≤ h) (h1 : h ≤ 32) (hy : 0 ≤ y) (v : Value) (l : List Rf) (hl : l.length ≤ 1000) (hbt : ∀ r ∈ l, 0 ≤ r.bt) (w : World) (R : RSl w v l) : Calls Tryd.prog 8 #[.int .i64 h, (.agg #[.int .i64 (x), .int .u64 (y)]), v] w fun e' w' => ∃ v', e' = .returned v' ∧ Gr5 w.heap.size w' v' (rowL h (sortL (l.filter fun r => bgS r.ln r.bt x y))) ∧ Below w.heap.size w w' := by
  have mixed : Tryd.prog.follows .mixedOrders = true := by kernel_rfl
  have hml0 : (sortL (l.filter fun r => bgS r.ln r.bt x y)).length ≤ 1000 := by
    rw [sortL_len]
    have := List.length_filter_le (fun r : Rf => bgS r.ln r.bt x y) l
    omega
  have b1 := gal1 w (.cells #[.int .i64 x, .int .u64 y] 28)
  have Q := hide (IsB.new w #[.int .i64 x, .int .u64 y] 28)
  have B := hide b1
  have hsz : w.heap.size < (w.alloc (.cells #[.int .i64 x, .int .u64 y] 28)).heap.size := by simp
  go_enter Tryd.func8, Tryd.ntmps8
  go_wp2_with fail
  generalize (w.alloc (.cells #[.int .i64 x, .int .u64 y] 28)) = W1 at *
  refine (rhead_ok h h0 h1 W1).mono ?_
  rintro e w2 ⟨rfl, hb⟩
  have b2 := gal1 w2 (.cells #[.int .i64 0, .int .i64 1, .int .u64 0, .int .i64 h, .int .u64 0] 30)
  have QH0 : Hid (IsB (w2.alloc (.cells #[.int .i64 0, .int .i64 1, .int .u64 0, .int .i64 h, .int .u64 0] 30)) w2.heap.size (hdR h).cells 30) := IsB.new w2 _ _
  replace Q := hide ((Q.out.below hb).below b2)
  replace B := hide ((B.out.trans (hb.mono B.out.size)).trans (b2.mono (Nat.le_trans B.out.size hb.size)))
  clear hb b2 b1 hsz
  go_wp2_with fail
  generalize hW3 : w2.alloc (.cells #[.int .i64 0, .int .i64 1, .int .u64 0, .int .i64 h, .int .u64 0] 30) = W3 at *
  clear hW3
  generalize w2.heap.size = HH at *
  refine (rtail_ok h h0 h1 W3).mono ?_
  rintro e w4 ⟨rfl, hb⟩
  have b2 := gal1 w4 (.cells #[.int .i64 1, .int .i64 3, .int .u64 0, .int .i64 h, .int .u64 0] 30)
  have QT0 : Hid (IsB (w4.alloc (.cells #[.int .i64 1, .int .i64 3, .int .u64 0, .int .i64 h, .int .u64 0] 30)) w4.heap.size (tlR h).cells 30) := IsB.new w4 _ _
  replace Q := hide ((Q.out.below hb).below b2)
  replace QH0 := hide ((QH0.out.below hb).below b2)
  replace B := hide ((B.out.trans (hb.mono B.out.size)).trans (b2.mono (Nat.le_trans B.out.size hb.size)))
  clear hb b2
  go_wp2_with fail
  generalize hW5 : w4.alloc (.cells #[.int .i64 1, .int .i64 3, .int .u64 0, .int .i64 h, .int .u64 0] 30) = W5 at *
  clear hW5
  generalize w4.heap.size = HT at *
  replace Q := hide (Q.out.below ((Below.refl _ _).drew))
  replace QH0 := hide (QH0.out.below ((Below.refl _ _).drew))
  replace QT0 := hide (QT0.out.below ((Below.refl _ _).drew))
  replace B := hide (B.out.drew)
  generalize hHV : w.heap.size = HV at *
  have HG0 : Hid (w.heap.size = HV) := hHV
  refine regionL 10 (fun w' => IsB w' HV #[.int .i64 x, .int .u64 y] 28 ∧ IsB w' HH (hdR h).cells 30 ∧ IsB w' HT (tlR h).cells 30) mixed ⟨Q.out, QH0.out, QT0.out⟩ (fun hHeld => ?_)
  generalize hWD : W5.drew = WD at *
  clear hWD
  obtain ⟨G, hG⟩ : ∃ G, HV = G := ⟨_, rfl⟩
  have HG : Hid (w.heap.size = G) := HG0.out.trans hG
  have hGV : Hid (G = HV) := hG.symm
  replace B : Hid (Below G w WD) := hG ▸ B.out
  have hGD : Hid (G ≤ WD.heap.size) := by show _ ≤ _; rw [← HG.out]; exact (HG.out.symm ▸ B.out).size
  have SA : Hid (∀ w', Below WD.heap.size WD w' → (fun w' => IsB w' HV #[.int .i64 x, .int .u64 y] 28 ∧ IsB w' HH (hdR h).cells 30 ∧ IsB w' HT (tlR h).cells 30) w') := fun w' hb => ⟨Q.out.below hb, QH0.out.below hb, QT0.out.below hb⟩
  have RA : Hid (∀ w', Below WD.heap.size WD w' → RSl w' v l) := fun w' hb => (R.below (HG.out.symm ▸ B.out)).below hb
  clear hG HG0
  obtain ⟨M, hM0⟩ : ∃ M, sortL (l.filter fun r => bgS r.ln r.bt x y) = M := ⟨_, rfl⟩
  have hml : Hid (M.length ≤ 1000) := hM0 ▸ hml0
  have HM0 := hide hM0
  clear hM0 hml0
  refine pickL (v := .agg #[.int .i64 0, .int .i64 1, .int .u64 0, .int .i64 h, .int .u64 0]) 0 (some 21) rfl rfl (by kernel_rfl) (by kernel_rfl) (by kernel_rfl) (by decide) (by kernel_rfl) (by kernel_rfl) (fun _ _ _ h => h) (by rfl) ?_ (by assumption) ?_
  · intro w' hSw
    obtain ⟨q0, q1, q2⟩ := hSw
    exact exec_load rfl rfl (load_ref q1 rfl)
  try simp only [Act.put, List.setIfInBounds_toArray, List.set_cons_zero, List.set_cons_succ]
  refine pickL (v := (.agg #[.int .i64 (x), .int .u64 (y)])) 2 (some 23) rfl rfl (by kernel_rfl) (by kernel_rfl) (by kernel_rfl) (by decide) (by kernel_rfl) (by kernel_rfl) (fun _ _ _ h => h) (by rfl) ?_ (by assumption) ?_
  · intro w' hSw
    obtain ⟨q0, q1, q2⟩ := hSw
    exact exec_load rfl rfl (ld_v2 q0)
  try simp only [Act.put, List.setIfInBounds_toArray, List.set_cons_zero, List.set_cons_succ]
  refine pickA (v := ?_) 3 (some 24) rfl rfl (by kernel_rfl) (by kernel_rfl) (by kernel_rfl) (by decide) (fun _ _ _ h => h) (by rfl) ?_ (by assumption) ?_
  rotate_left
  · intro w'
    go_simp
    try with_reducible rfl
  try simp only [Act.put, List.setIfInBounds_toArray, List.set_cons_zero, List.set_cons_succ]
  refine pickL (v := .agg #[.int .i64 1, .int .i64 3, .int .u64 0, .int .i64 h, .int .u64 0]) 6 (some 27) rfl rfl (by kernel_rfl) (by kernel_rfl) (by kernel_rfl) (by decide) (by kernel_rfl) (by kernel_rfl) (fun _ _ _ h => h) (by rfl) ?_ (by assumption) ?_
  · intro w' hSw
    obtain ⟨q0, q1, q2⟩ := hSw
    exact exec_load rfl rfl (load_ref q2 rfl)
  try simp only [Act.put, List.setIfInBounds_toArray, List.set_cons_zero, List.set_cons_succ]
  have BC : Hid (Below WD.heap.size WD WD) := Below.refl _ _
  refine manyL (L := [1, 4, 7]) (by kernel_rfl) (by decide) (fun i hi => ?_)
  simp only [List.mem_cons, List.not_mem_nil, or_false] at hi
  rcases hi with rfl | rfl | rfl
  · refine ⟨_, rfl, fun K hK => ?_⟩
    go_simp
    obtain ⟨gh, hgq⟩ : ∃ n, n = WD.heap.size := ⟨_, rfl⟩
    have bx := gal1 WD (.cells #[.int .i64 0, .int .i64 1, .int .u64 0, .int .i64 h, .int .u64 0] 30)
    have hHb : Hid (IsB (WD.alloc (.cells #[.int .i64 0, .int .i64 1, .int .u64 0, .int .i64 h, .int .u64 0] 30)) gh (hdR h).cells 30) := by show IsB _ _ _ _; rw [hgq]; exact IsB.new WD _ _
    have hgh : Hid (WD.heap.size ≤ gh) := by show _ ≤ _; rw [hgq]; exact BC.out.size
    rw [← hgq]
    replace BC := hide (BC.out.trans (bx.mono BC.out.size))
    clear bx
    generalize hXq : WD.alloc (.cells #[.int .i64 0, .int .i64 1, .int .u64 0, .int .i64 h, .int .u64 0] 30) = X1 at *
    clear hXq hgq
    refine hK.out _ _ ?_ ?_
    · exact SA.out _ BC.out
    clear hK K
    try simp only [Act.put, List.setIfInBounds_toArray, List.set_cons_zero, List.set_cons_succ]
    clear hHeld
    have hHeld : (fun w' => IsB w' HV #[.int .i64 x, .int .u64 y] 28 ∧ IsB w' HH (hdR h).cells 30 ∧ IsB w' HT (tlR h).cells 30) X1 := SA.out _ BC.out
    refine manyL (L := [4, 7]) (by kernel_rfl) (by decide) (fun i hi => ?_)
    simp only [List.mem_cons, List.not_mem_nil, or_false] at hi
    rcases hi with rfl | rfl
    · refine ⟨_, rfl, fun K hK => ?_⟩
      go_simp
      refine (members_any x y hy v l hl hbt X1 (RA.out _ BC.out)).mono ?_
      rintro e X2 ⟨vm, rfl, hM, hb⟩
      rw [HM0.out] at hM
      have hMb := hide (Rg.mono hM BC.out.size)
      replace BC := hide (BC.out.trans (hb.mono BC.out.size))
      replace hHb := hide (hHb.out.below hb)
      clear hb hM
      refine hK.out _ _ ?_ ?_
      · exact SA.out _ BC.out
      clear hK K
      try simp only [Act.put, List.setIfInBounds_toArray, List.set_cons_zero, List.set_cons_succ]
      clear hHeld
      have hHeld : (fun w' => IsB w' HV #[.int .i64 x, .int .u64 y] 28 ∧ IsB w' HH (hdR h).cells 30 ∧ IsB w' HT (tlR h).cells 30) X2 := SA.out _ BC.out
      refine manyL (L := [5, 7]) (by kernel_rfl) (by decide) (fun i hi => ?_)
      simp only [List.mem_cons, List.not_mem_nil, or_false] at hi
      rcases hi with rfl | rfl
      · refine ⟨_, rfl, fun K hK => ?_⟩
        have hRow := Rg.one 30 5 (show IsB X2 gh (hdR h).cs.toArray 30 from hHb.out) rfl ((es_rfs [hdR h]).one _ (by simp)) hgh.out
        obtain ⟨qa, qc, X3, hap, hrow, hkp⟩ := Rg.app ty_ref (by omega) hRow vm _ (es_rfs _) (Rg.src hMb.out) (by simp; have := hml.out; omega) BC.out.size 22
        simp only [List.length_cons, List.length_nil, List.length_map, Nat.zero_add] at hap hrow
        have HA5 := hide hap
        have hRb := hide hrow
        replace BC := hide (BC.out.trans (hkp.to_below BC.out.size (by simpa [Value.ownBlock] using hgh.out)))
        clear hap hrow hkp hRow
        refine step_append_eq rfl (.tmp 22) (.tmp 25) 22 rfl _ _ (.slice qa (1 + M.length) qc) X3 rfl rfl HA5.out ?_
        refine hK.out _ _ ?_ ?_
        · exact SA.out _ BC.out
        clear hK K
        try simp only [Act.put, List.setIfInBounds_toArray]
        clear hHeld
        have hHeld : (fun w' => IsB w' HV #[.int .i64 x, .int .u64 y] 28 ∧ IsB w' HH (hdR h).cells 30 ∧ IsB w' HT (tlR h).cells 30) X3 := SA.out _ BC.out
        refine oneL (i := 7) (by kernel_rfl) rfl (fun K hK => ?_)
        go_simp
        obtain ⟨gt, hgq⟩ : ∃ n, n = X3.heap.size := ⟨_, rfl⟩
        have bx := gal1 X3 (.cells #[.int .i64 1, .int .i64 3, .int .u64 0, .int .i64 h, .int .u64 0] 30)
        have hTb : Hid (IsB (X3.alloc (.cells #[.int .i64 1, .int .i64 3, .int .u64 0, .int .i64 h, .int .u64 0] 30)) gt (tlR h).cells 30) := by show IsB _ _ _ _; rw [hgq]; exact IsB.new X3 _ _
        have hgt : Hid (WD.heap.size ≤ gt) := by show _ ≤ _; rw [hgq]; exact BC.out.size
        rw [← hgq]
        replace hRb := hide (Rg.below hRb.out bx)
        replace BC := hide (BC.out.trans (bx.mono BC.out.size))
        clear bx
        generalize hXq : X3.alloc (.cells #[.int .i64 1, .int .i64 3, .int .u64 0, .int .i64 h, .int .u64 0] 30) = X4 at *
        clear hXq hgq
        refine hK.out _ _ ?_ ?_
        · exact SA.out _ BC.out
        clear hK K
        try simp only [Act.put, List.setIfInBounds_toArray, List.set_cons_zero, List.set_cons_succ]
        clear hHeld
        have hHeld : (fun w' => IsB w' HV #[.int .i64 x, .int .u64 y] 28 ∧ IsB w' HH (hdR h).cells 30 ∧ IsB w' HT (tlR h).cells 30) X4 := SA.out _ BC.out
        refine oneL (i := 8) (by kernel_rfl) rfl (fun K hK => ?_)
        obtain ⟨ra, rc, X5, hap, hrow, hkp⟩ := Rg.push ty_ref (by omega) hRb.out (tlR h).cs rfl ((es_rfs [tlR h]).one _ (by simp)) gt 1 hTb.out (by simp; have := hml.out; omega) BC.out.size 22
        have e7 : (([hdR h].map Rf.cs ++ M.map Rf.cs).length) = 1 + M.length := by simp; omega
        simp only [List.map_cons, List.map_nil] at e7
        rw [e7] at hap hrow
        have HA8 := hide hap
        have HR := hide hrow
        have hnb := hRb.out.new
        replace BC := hide (BC.out.trans (hkp.to_below BC.out.size (fun k hk => hnb k (by simpa using hk))))
        clear hap hrow hkp hnb
        refine step_append_eq rfl (.tmp 26) (.tmp 28) 22 rfl _ _ (.slice ra (1 + M.length + 1) rc) X5 rfl rfl HA8.out ?_
        have BG : Hid (Below G w X5) := B.out.trans (BC.out.mono hGD.out)
        refine hK.out _ _ ?_ ?_
        · exact SA.out _ BC.out
        clear hK K
        try simp only [Act.put, List.setIfInBounds_toArray]
        clear hHeld
        have hHeld : (fun w' => IsB w' HV #[.int .i64 x, .int .u64 y] 28 ∧ IsB w' HH (hdR h).cells 30 ∧ IsB w' HT (tlR h).cells 30) X5 := SA.out _ BC.out
        refine pickA (v := ?_) 9 (some 6) rfl rfl (by kernel_rfl) (by kernel_rfl) (by kernel_rfl) (by decide) (fun _ _ _ h => h) (by rfl) ?_ (by assumption) ?_
        rotate_left
        · intro w'
          go_simp
          try with_reducible rfl
        try simp only [Act.put]
        refine doneL (by kernel_rfl) ?_ _
        clear hHeld
        go_wp2
        go_ret
        refine ⟨_, rfl, ?_, hGV.out ▸ BG.out⟩
        rw [← hGV.out, HM0.out]
        have e9 := Rg.mono HR.out hGD.out
        unfold Gr5 rowL
        simpa using e9
      · refine ⟨_, rfl, fun K hK => ?_⟩
        go_simp
        obtain ⟨gt, hgq⟩ : ∃ n, n = X2.heap.size := ⟨_, rfl⟩
        have bx := gal1 X2 (.cells #[.int .i64 1, .int .i64 3, .int .u64 0, .int .i64 h, .int .u64 0] 30)
        have hTb : Hid (IsB (X2.alloc (.cells #[.int .i64 1, .int .i64 3, .int .u64 0, .int .i64 h, .int .u64 0] 30)) gt (tlR h).cells 30) := by show IsB _ _ _ _; rw [hgq]; exact IsB.new X2 _ _
        have hgt : Hid (WD.heap.size ≤ gt) := by show _ ≤ _; rw [hgq]; exact BC.out.size
        rw [← hgq]
        replace hMb := hide (hMb.out.below bx)
        have hne : Hid (gh ≠ gt) := by have := hHb.out.lt; show _ ≠ _; omega
        replace hHb := hide (hHb.out.below bx)
        replace BC := hide (BC.out.trans (bx.mono BC.out.size))
        clear bx
        generalize hXq : X2.alloc (.cells #[.int .i64 1, .int .i64 3, .int .u64 0, .int .i64 h, .int .u64 0] 30) = X3 at *
        clear hXq hgq
        refine hK.out _ _ ?_ ?_
        · exact SA.out _ BC.out
        clear hK K
        try simp only [Act.put, List.setIfInBounds_toArray, List.set_cons_zero, List.set_cons_succ]
        clear hHeld
        have hHeld : (fun w' => IsB w' HV #[.int .i64 x, .int .u64 y] 28 ∧ IsB w' HH (hdR h).cells 30 ∧ IsB w' HT (tlR h).cells 30) X3 := SA.out _ BC.out
        refine oneL (i := 5) (by kernel_rfl) rfl (fun K hK => ?_)
        have hRow := Rg.one 30 5 (show IsB X3 gh (hdR h).cs.toArray 30 from hHb.out) rfl ((es_rfs [hdR h]).one _ (by simp)) hgh.out
        obtain ⟨qa, qc, X4, hap, hrow, hkp⟩ := Rg.app ty_ref (by omega) hRow vm _ (es_rfs _) (Rg.src hMb.out) (by simp; have := hml.out; omega) BC.out.size 22
        simp only [List.length_cons, List.length_nil, List.length_map, Nat.zero_add] at hap hrow
        have HA5 := hide hap
        have hRb := hide hrow
        replace BC := hide (BC.out.trans (hkp.to_below BC.out.size (by simpa [Value.ownBlock] using hgh.out)))
        replace hTb := hide (hTb.out.kp hkp (by simpa [Value.ownBlock] using fun e => hne.out e.symm))
        clear hap hrow hkp hRow
        refine step_append_eq rfl (.tmp 22) (.tmp 25) 22 rfl _ _ (.slice qa (1 + M.length) qc) X4 rfl rfl HA5.out ?_
        refine hK.out _ _ ?_ ?_
        · exact SA.out _ BC.out
        clear hK K
        try simp only [Act.put, List.setIfInBounds_toArray]
        clear hHeld
        have hHeld : (fun w' => IsB w' HV #[.int .i64 x, .int .u64 y] 28 ∧ IsB w' HH (hdR h).cells 30 ∧ IsB w' HT (tlR h).cells 30) X4 := SA.out _ BC.out
        refine oneL (i := 8) (by kernel_rfl) rfl (fun K hK => ?_)
        obtain ⟨ra, rc, X5, hap, hrow, hkp⟩ := Rg.push ty_ref (by omega) hRb.out (tlR h).cs rfl ((es_rfs [tlR h]).one _ (by simp)) gt 1 hTb.out (by simp; have := hml.out; omega) BC.out.size 22
        have e7 : (([hdR h].map Rf.cs ++ M.map Rf.cs).length) = 1 + M.length := by simp; omega
        simp only [List.map_cons, List.map_nil] at e7
        rw [e7] at hap hrow
        have HA8 := hide hap
        have HR := hide hrow
        have hnb := hRb.out.new
        replace BC := hide (BC.out.trans (hkp.to_below BC.out.size (fun k hk => hnb k (by simpa using hk))))
        clear hap hrow hkp hnb
        refine step_append_eq rfl (.tmp 26) (.tmp 28) 22 rfl _ _ (.slice ra (1 + M.length + 1) rc) X5 rfl rfl HA8.out ?_
        have BG : Hid (Below G w X5) := B.out.trans (BC.out.mono hGD.out)
        refine hK.out _ _ ?_ ?_
        · exact SA.out _ BC.out
        clear hK K
        try simp only [Act.put]
        clear hHeld
        have hHeld : (fun w' => IsB w' HV #[.int .i64 x, .int .u64 y] 28 ∧ IsB w' HH (hdR h).cells 30 ∧ IsB w' HT (tlR h).cells 30) X5 := SA.out _ BC.out
        refine pickA (v := ?_) 9 (some 6) rfl rfl (by kernel_rfl) (by kernel_rfl) (by kernel_rfl) (by decide) (fun _ _ _ h => h) (by rfl) ?_ (by assumption) ?_
        rotate_left
        · intro w'
          go_simp
          try with_reducible rfl
        try simp only [Act.put]
        refine doneL (by kernel_rfl) ?_ _
        clear hHeld
        go_wp2
        go_ret
        refine ⟨_, rfl, ?_, hGV.out ▸ BG.out⟩
        rw [← hGV.out, HM0.out]
        have e9 := Rg.mono HR.out hGD.out
        unfold Gr5 rowL
        simpa using e9
    · refine ⟨_, rfl, fun K hK => ?_⟩
      go_simp
      obtain ⟨gt, hgq⟩ : ∃ n, n = X1.heap.size := ⟨_, rfl⟩
      have bx := gal1 X1 (.cells #[.int .i64 1, .int .i64 3, .int .u64 0, .int .i64 h, .int .u64 0] 30)
      have hTb : Hid (IsB (X1.alloc (.cells #[.int .i64 1, .int .i64 3, .int .u64 0, .int .i64 h, .int .u64 0] 30)) gt (tlR h).cells 30) := by show IsB _ _ _ _; rw [hgq]; exact IsB.new X1 _ _
      have hgt : Hid (WD.heap.size ≤ gt) := by show _ ≤ _; rw [hgq]; exact BC.out.size
      rw [← hgq]
      have hne : Hid (gh ≠ gt) := by have := hHb.out.lt; show _ ≠ _; omega
      replace hHb := hide (hHb.out.below bx)
      replace BC := hide (BC.out.trans (bx.mono BC.out.size))
      clear bx
      generalize hXq : X1.alloc (.cells #[.int .i64 1, .int .i64 3, .int .u64 0, .int .i64 h, .int .u64 0] 30) = X2 at *
      clear hXq hgq
      refine hK.out _ _ ?_ ?_
      · exact SA.out _ BC.out
      clear hK K
      try simp only [Act.put, List.setIfInBounds_toArray, List.set_cons_zero, List.set_cons_succ]
      clear hHeld
      have hHeld : (fun w' => IsB w' HV #[.int .i64 x, .int .u64 y] 28 ∧ IsB w' HH (hdR h).cells 30 ∧ IsB w' HT (tlR h).cells 30) X2 := SA.out _ BC.out
      refine oneL (i := 4) (by kernel_rfl) rfl (fun K hK => ?_)
      go_simp
      refine (members_any x y hy v l hl hbt X2 (RA.out _ BC.out)).mono ?_
      rintro e X3 ⟨vm, rfl, hM, hb⟩
      rw [HM0.out] at hM
      have hMb := hide (Rg.mono hM BC.out.size)
      replace BC := hide (BC.out.trans (hb.mono BC.out.size))
      replace hHb := hide (hHb.out.below hb)
      replace hTb := hide (hTb.out.below hb)
      clear hb hM
      refine hK.out _ _ ?_ ?_
      · exact SA.out _ BC.out
      clear hK K
      try simp only [Act.put, List.setIfInBounds_toArray, List.set_cons_zero, List.set_cons_succ]
      clear hHeld
      have hHeld : (fun w' => IsB w' HV #[.int .i64 x, .int .u64 y] 28 ∧ IsB w' HH (hdR h).cells 30 ∧ IsB w' HT (tlR h).cells 30) X3 := SA.out _ BC.out
      refine oneL (i := 5) (by kernel_rfl) rfl (fun K hK => ?_)
      have hRow := Rg.one 30 5 (show IsB X3 gh (hdR h).cs.toArray 30 from hHb.out) rfl ((es_rfs [hdR h]).one _ (by simp)) hgh.out
      obtain ⟨qa, qc, X4, hap, hrow, hkp⟩ := Rg.app ty_ref (by omega) hRow vm _ (es_rfs _) (Rg.src hMb.out) (by simp; have := hml.out; omega) BC.out.size 22
      simp only [List.length_cons, List.length_nil, List.length_map, Nat.zero_add] at hap hrow
      have HA5 := hide hap
      have hRb := hide hrow
      replace BC := hide (BC.out.trans (hkp.to_below BC.out.size (by simpa [Value.ownBlock] using hgh.out)))
      replace hTb := hide (hTb.out.kp hkp (by simpa [Value.ownBlock] using fun e => hne.out e.symm))
      clear hap hrow hkp hRow
      refine step_append_eq rfl (.tmp 22) (.tmp 25) 22 rfl _ _ (.slice qa (1 + M.length) qc) X4 rfl rfl HA5.out ?_
      refine hK.out _ _ ?_ ?_
      · exact SA.out _ BC.out
      clear hK K
      try simp only [Act.put, List.setIfInBounds_toArray]
      clear hHeld
      have hHeld : (fun w' => IsB w' HV #[.int .i64 x, .int .u64 y] 28 ∧ IsB w' HH (hdR h).cells 30 ∧ IsB w' HT (tlR h).cells 30) X4 := SA.out _ BC.out
      refine oneL (i := 8) (by kernel_rfl) rfl (fun K hK => ?_)
      obtain ⟨ra, rc, X5, hap, hrow, hkp⟩ := Rg.push ty_ref (by omega) hRb.out (tlR h).cs rfl ((es_rfs [tlR h]).one _ (by simp)) gt 1 hTb.out (by simp; have := hml.out; omega) BC.out.size 22
      have e7 : (([hdR h].map Rf.cs ++ M.map Rf.cs).length) = 1 + M.length := by simp; omega
      simp only [List.map_cons, List.map_nil] at e7
      rw [e7] at hap hrow
      have HA8 := hide hap
      have HR := hide hrow
      have hnb := hRb.out.new
      replace BC := hide (BC.out.trans (hkp.to_below BC.out.size (fun k hk => hnb k (by simpa using hk))))
      clear hap hrow hkp hnb
      refine step_append_eq rfl (.tmp 26) (.tmp 28) 22 rfl _ _ (.slice ra (1 + M.length + 1) rc) X5 rfl rfl HA8.out ?_
      have BG : Hid (Below G w X5) := B.out.trans (BC.out.mono hGD.out)
      refine hK.out _ _ ?_ ?_
      · exact SA.out _ BC.out
      clear hK K
      try simp only [Act.put]
      clear hHeld
      have hHeld : (fun w' => IsB w' HV #[.int .i64 x, .int .u64 y] 28 ∧ IsB w' HH (hdR h).cells 30 ∧ IsB w' HT (tlR h).cells 30) X5 := SA.out _ BC.out
      refine pickA (v := ?_) 9 (some 6) rfl rfl (by kernel_rfl) (by kernel_rfl) (by kernel_rfl) (by decide) (fun _ _ _ h => h) (by rfl) ?_ (by assumption) ?_
      rotate_left
      · intro w'
        go_simp
        try with_reducible rfl
      try simp only [Act.put]
      refine doneL (by kernel_rfl) ?_ _
      clear hHeld
      go_wp2
      go_ret
      refine ⟨_, rfl, ?_, hGV.out ▸ BG.out⟩
      rw [← hGV.out, HM0.out]
      have e9 := Rg.mono HR.out hGD.out
      unfold Gr5 rowL
      simpa using e9
  · refine ⟨_, rfl, fun K hK => ?_⟩
    go_simp
    refine (members_any x y hy v l hl hbt WD (RA.out _ BC.out)).mono ?_
    rintro e X1 ⟨vm, rfl, hM, hb⟩
    rw [HM0.out] at hM
    have hMb := hide (Rg.mono hM BC.out.size)
    replace BC := hide (BC.out.trans (hb.mono BC.out.size))
    clear hb hM
    refine hK.out _ _ ?_ ?_
    · exact SA.out _ BC.out
    clear hK K
    try simp only [Act.put, List.setIfInBounds_toArray, List.set_cons_zero, List.set_cons_succ]
    clear hHeld
    have hHeld : (fun w' => IsB w' HV #[.int .i64 x, .int .u64 y] 28 ∧ IsB w' HH (hdR h).cells 30 ∧ IsB w' HT (tlR h).cells 30) X1 := SA.out _ BC.out
    refine manyL (L := [1, 7]) (by kernel_rfl) (by decide) (fun i hi => ?_)
    simp only [List.mem_cons, List.not_mem_nil, or_false] at hi
    rcases hi with rfl | rfl
    · refine ⟨_, rfl, fun K hK => ?_⟩
      go_simp
      obtain ⟨gh, hgq⟩ : ∃ n, n = X1.heap.size := ⟨_, rfl⟩
      have bx := gal1 X1 (.cells #[.int .i64 0, .int .i64 1, .int .u64 0, .int .i64 h, .int .u64 0] 30)
      have hHb : Hid (IsB (X1.alloc (.cells #[.int .i64 0, .int .i64 1, .int .u64 0, .int .i64 h, .int .u64 0] 30)) gh (hdR h).cells 30) := by show IsB _ _ _ _; rw [hgq]; exact IsB.new X1 _ _
      have hgh : Hid (WD.heap.size ≤ gh) := by show _ ≤ _; rw [hgq]; exact BC.out.size
      rw [← hgq]
      replace hMb := hide (hMb.out.below bx)
      replace BC := hide (BC.out.trans (bx.mono BC.out.size))
      clear bx
      generalize hXq : X1.alloc (.cells #[.int .i64 0, .int .i64 1, .int .u64 0, .int .i64 h, .int .u64 0] 30) = X2 at *
      clear hXq hgq
      refine hK.out _ _ ?_ ?_
      · exact SA.out _ BC.out
      clear hK K
      try simp only [Act.put, List.setIfInBounds_toArray, List.set_cons_zero, List.set_cons_succ]
      clear hHeld
      have hHeld : (fun w' => IsB w' HV #[.int .i64 x, .int .u64 y] 28 ∧ IsB w' HH (hdR h).cells 30 ∧ IsB w' HT (tlR h).cells 30) X2 := SA.out _ BC.out
      refine manyL (L := [5, 7]) (by kernel_rfl) (by decide) (fun i hi => ?_)
      simp only [List.mem_cons, List.not_mem_nil, or_false] at hi
      rcases hi with rfl | rfl
      · refine ⟨_, rfl, fun K hK => ?_⟩
        have hRow := Rg.one 30 5 (show IsB X2 gh (hdR h).cs.toArray 30 from hHb.out) rfl ((es_rfs [hdR h]).one _ (by simp)) hgh.out
        obtain ⟨qa, qc, X3, hap, hrow, hkp⟩ := Rg.app ty_ref (by omega) hRow vm _ (es_rfs _) (Rg.src hMb.out) (by simp; have := hml.out; omega) BC.out.size 22
        simp only [List.length_cons, List.length_nil, List.length_map, Nat.zero_add] at hap hrow
        have HA5 := hide hap
        have hRb := hide hrow
        replace BC := hide (BC.out.trans (hkp.to_below BC.out.size (by simpa [Value.ownBlock] using hgh.out)))
        clear hap hrow hkp hRow
        refine step_append_eq rfl (.tmp 22) (.tmp 25) 22 rfl _ _ (.slice qa (1 + M.length) qc) X3 rfl rfl HA5.out ?_
        refine hK.out _ _ ?_ ?_
        · exact SA.out _ BC.out
        clear hK K
        try simp only [Act.put, List.setIfInBounds_toArray]
        clear hHeld
        have hHeld : (fun w' => IsB w' HV #[.int .i64 x, .int .u64 y] 28 ∧ IsB w' HH (hdR h).cells 30 ∧ IsB w' HT (tlR h).cells 30) X3 := SA.out _ BC.out
        refine oneL (i := 7) (by kernel_rfl) rfl (fun K hK => ?_)
        go_simp
        obtain ⟨gt, hgq⟩ : ∃ n, n = X3.heap.size := ⟨_, rfl⟩
        have bx := gal1 X3 (.cells #[.int .i64 1, .int .i64 3, .int .u64 0, .int .i64 h, .int .u64 0] 30)
        have hTb : Hid (IsB (X3.alloc (.cells #[.int .i64 1, .int .i64 3, .int .u64 0, .int .i64 h, .int .u64 0] 30)) gt (tlR h).cells 30) := by show IsB _ _ _ _; rw [hgq]; exact IsB.new X3 _ _
        have hgt : Hid (WD.heap.size ≤ gt) := by show _ ≤ _; rw [hgq]; exact BC.out.size
        rw [← hgq]
        replace hRb := hide (Rg.below hRb.out bx)
        replace BC := hide (BC.out.trans (bx.mono BC.out.size))
        clear bx
        generalize hXq : X3.alloc (.cells #[.int .i64 1, .int .i64 3, .int .u64 0, .int .i64 h, .int .u64 0] 30) = X4 at *
        clear hXq hgq
        refine hK.out _ _ ?_ ?_
        · exact SA.out _ BC.out
        clear hK K
        try simp only [Act.put, List.setIfInBounds_toArray, List.set_cons_zero, List.set_cons_succ]
        clear hHeld
        have hHeld : (fun w' => IsB w' HV #[.int .i64 x, .int .u64 y] 28 ∧ IsB w' HH (hdR h).cells 30 ∧ IsB w' HT (tlR h).cells 30) X4 := SA.out _ BC.out
        refine oneL (i := 8) (by kernel_rfl) rfl (fun K hK => ?_)
        obtain ⟨ra, rc, X5, hap, hrow, hkp⟩ := Rg.push ty_ref (by omega) hRb.out (tlR h).cs rfl ((es_rfs [tlR h]).one _ (by simp)) gt 1 hTb.out (by simp; have := hml.out; omega) BC.out.size 22
        have e7 : (([hdR h].map Rf.cs ++ M.map Rf.cs).length) = 1 + M.length := by simp; omega
        simp only [List.map_cons, List.map_nil] at e7
        rw [e7] at hap hrow
        have HA8 := hide hap
        have HR := hide hrow
        have hnb := hRb.out.new
        replace BC := hide (BC.out.trans (hkp.to_below BC.out.size (fun k hk => hnb k (by simpa using hk))))
        clear hap hrow hkp hnb
        refine step_append_eq rfl (.tmp 26) (.tmp 28) 22 rfl _ _ (.slice ra (1 + M.length + 1) rc) X5 rfl rfl HA8.out ?_
        have BG : Hid (Below G w X5) := B.out.trans (BC.out.mono hGD.out)
        refine hK.out _ _ ?_ ?_
        · exact SA.out _ BC.out
        clear hK K
        try simp only [Act.put, List.setIfInBounds_toArray]
        clear hHeld
        have hHeld : (fun w' => IsB w' HV #[.int .i64 x, .int .u64 y] 28 ∧ IsB w' HH (hdR h).cells 30 ∧ IsB w' HT (tlR h).cells 30) X5 := SA.out _ BC.out
        refine pickA (v := ?_) 9 (some 6) rfl rfl (by kernel_rfl) (by kernel_rfl) (by kernel_rfl) (by decide) (fun _ _ _ h => h) (by rfl) ?_ (by assumption) ?_
        rotate_left
        · intro w'
          go_simp
          try with_reducible rfl
        try simp only [Act.put]
        refine doneL (by kernel_rfl) ?_ _
        clear hHeld
        go_wp2
        go_ret
        refine ⟨_, rfl, ?_, hGV.out ▸ BG.out⟩
        rw [← hGV.out, HM0.out]
        have e9 := Rg.mono HR.out hGD.out
        unfold Gr5 rowL
        simpa using e9
      · refine ⟨_, rfl, fun K hK => ?_⟩
        go_simp
        obtain ⟨gt, hgq⟩ : ∃ n, n = X2.heap.size := ⟨_, rfl⟩
        have bx := gal1 X2 (.cells #[.int .i64 1, .int .i64 3, .int .u64 0, .int .i64 h, .int .u64 0] 30)
        have hTb : Hid (IsB (X2.alloc (.cells #[.int .i64 1, .int .i64 3, .int .u64 0, .int .i64 h, .int .u64 0] 30)) gt (tlR h).cells 30) := by show IsB _ _ _ _; rw [hgq]; exact IsB.new X2 _ _
        have hgt : Hid (WD.heap.size ≤ gt) := by show _ ≤ _; rw [hgq]; exact BC.out.size
        rw [← hgq]
        replace hMb := hide (hMb.out.below bx)
        have hne : Hid (gh ≠ gt) := by have := hHb.out.lt; show _ ≠ _; omega
        replace hHb := hide (hHb.out.below bx)
        replace BC := hide (BC.out.trans (bx.mono BC.out.size))
        clear bx
        generalize hXq : X2.alloc (.cells #[.int .i64 1, .int .i64 3, .int .u64 0, .int .i64 h, .int .u64 0] 30) = X3 at *
        clear hXq hgq
        refine hK.out _ _ ?_ ?_
        · exact SA.out _ BC.out
        clear hK K
        try simp only [Act.put, List.setIfInBounds_toArray, List.set_cons_zero, List.set_cons_succ]
        clear hHeld
        have hHeld : (fun w' => IsB w' HV #[.int .i64 x, .int .u64 y] 28 ∧ IsB w' HH (hdR h).cells 30 ∧ IsB w' HT (tlR h).cells 30) X3 := SA.out _ BC.out
        refine oneL (i := 5) (by kernel_rfl) rfl (fun K hK => ?_)
        have hRow := Rg.one 30 5 (show IsB X3 gh (hdR h).cs.toArray 30 from hHb.out) rfl ((es_rfs [hdR h]).one _ (by simp)) hgh.out
        obtain ⟨qa, qc, X4, hap, hrow, hkp⟩ := Rg.app ty_ref (by omega) hRow vm _ (es_rfs _) (Rg.src hMb.out) (by simp; have := hml.out; omega) BC.out.size 22
        simp only [List.length_cons, List.length_nil, List.length_map, Nat.zero_add] at hap hrow
        have HA5 := hide hap
        have hRb := hide hrow
        replace BC := hide (BC.out.trans (hkp.to_below BC.out.size (by simpa [Value.ownBlock] using hgh.out)))
        replace hTb := hide (hTb.out.kp hkp (by simpa [Value.ownBlock] using fun e => hne.out e.symm))
        clear hap hrow hkp hRow
        refine step_append_eq rfl (.tmp 22) (.tmp 25) 22 rfl _ _ (.slice qa (1 + M.length) qc) X4 rfl rfl HA5.out ?_
        refine hK.out _ _ ?_ ?_
        · exact SA.out _ BC.out
        clear hK K
        try simp only [Act.put, List.setIfInBounds_toArray]
        clear hHeld
        have hHeld : (fun w' => IsB w' HV #[.int .i64 x, .int .u64 y] 28 ∧ IsB w' HH (hdR h).cells 30 ∧ IsB w' HT (tlR h).cells 30) X4 := SA.out _ BC.out
        refine oneL (i := 8) (by kernel_rfl) rfl (fun K hK => ?_)
        obtain ⟨ra, rc, X5, hap, hrow, hkp⟩ := Rg.push ty_ref (by omega) hRb.out (tlR h).cs rfl ((es_rfs [tlR h]).one _ (by simp)) gt 1 hTb.out (by simp; have := hml.out; omega) BC.out.size 22
        have e7 : (([hdR h].map Rf.cs ++ M.map Rf.cs).length) = 1 + M.length := by simp; omega
        simp only [List.map_cons, List.map_nil] at e7
        rw [e7] at hap hrow
        have HA8 := hide hap
        have HR := hide hrow
        have hnb := hRb.out.new
        replace BC := hide (BC.out.trans (hkp.to_below BC.out.size (fun k hk => hnb k (by simpa using hk))))
        clear hap hrow hkp hnb
        refine step_append_eq rfl (.tmp 26) (.tmp 28) 22 rfl _ _ (.slice ra (1 + M.length + 1) rc) X5 rfl rfl HA8.out ?_
        have BG : Hid (Below G w X5) := B.out.trans (BC.out.mono hGD.out)
        refine hK.out _ _ ?_ ?_
        · exact SA.out _ BC.out
        clear hK K
        try simp only [Act.put]
        clear hHeld
        have hHeld : (fun w' => IsB w' HV #[.int .i64 x, .int .u64 y] 28 ∧ IsB w' HH (hdR h).cells 30 ∧ IsB w' HT (tlR h).cells 30) X5 := SA.out _ BC.out
        refine pickA (v := ?_) 9 (some 6) rfl rfl (by kernel_rfl) (by kernel_rfl) (by kernel_rfl) (by decide) (fun _ _ _ h => h) (by rfl) ?_ (by assumption) ?_
        rotate_left
        · intro w'
          go_simp
          try with_reducible rfl
        try simp only [Act.put]
        refine doneL (by kernel_rfl) ?_ _
        clear hHeld
        go_wp2
        go_ret
        refine ⟨_, rfl, ?_, hGV.out ▸ BG.out⟩
        rw [← hGV.out, HM0.out]
        have e9 := Rg.mono HR.out hGD.out
        unfold Gr5 rowL
        simpa using e9
    · refine ⟨_, rfl, fun K hK => ?_⟩
      go_simp
      obtain ⟨gt, hgq⟩ : ∃ n, n = X1.heap.size := ⟨_, rfl⟩
      have bx := gal1 X1 (.cells #[.int .i64 1, .int .i64 3, .int .u64 0, .int .i64 h, .int .u64 0] 30)
      have hTb : Hid (IsB (X1.alloc (.cells #[.int .i64 1, .int .i64 3, .int .u64 0, .int .i64 h, .int .u64 0] 30)) gt (tlR h).cells 30) := by show IsB _ _ _ _; rw [hgq]; exact IsB.new X1 _ _
      have hgt : Hid (WD.heap.size ≤ gt) := by show _ ≤ _; rw [hgq]; exact BC.out.size
      rw [← hgq]
      replace hMb := hide (hMb.out.below bx)
      replace BC := hide (BC.out.trans (bx.mono BC.out.size))
      clear bx
      generalize hXq : X1.alloc (.cells #[.int .i64 1, .int .i64 3, .int .u64 0, .int .i64 h, .int .u64 0] 30) = X2 at *
      clear hXq hgq
      refine hK.out _ _ ?_ ?_
      · exact SA.out _ BC.out
      clear hK K
      try simp only [Act.put, List.setIfInBounds_toArray, List.set_cons_zero, List.set_cons_succ]
      clear hHeld
      have hHeld : (fun w' => IsB w' HV #[.int .i64 x, .int .u64 y] 28 ∧ IsB w' HH (hdR h).cells 30 ∧ IsB w' HT (tlR h).cells 30) X2 := SA.out _ BC.out
      refine oneL (i := 1) (by kernel_rfl) rfl (fun K hK => ?_)
      go_simp
      obtain ⟨gh, hgq⟩ : ∃ n, n = X2.heap.size := ⟨_, rfl⟩
      have bx := gal1 X2 (.cells #[.int .i64 0, .int .i64 1, .int .u64 0, .int .i64 h, .int .u64 0] 30)
      have hHb : Hid (IsB (X2.alloc (.cells #[.int .i64 0, .int .i64 1, .int .u64 0, .int .i64 h, .int .u64 0] 30)) gh (hdR h).cells 30) := by show IsB _ _ _ _; rw [hgq]; exact IsB.new X2 _ _
      have hgh : Hid (WD.heap.size ≤ gh) := by show _ ≤ _; rw [hgq]; exact BC.out.size
      rw [← hgq]
      replace hMb := hide (hMb.out.below bx)
      have hne : Hid (gh ≠ gt) := by have := hTb.out.lt; show _ ≠ _; omega
      replace hTb := hide (hTb.out.below bx)
      replace BC := hide (BC.out.trans (bx.mono BC.out.size))
      clear bx
      generalize hXq : X2.alloc (.cells #[.int .i64 0, .int .i64 1, .int .u64 0, .int .i64 h, .int .u64 0] 30) = X3 at *
      clear hXq hgq
      refine hK.out _ _ ?_ ?_
      · exact SA.out _ BC.out
      clear hK K
      try simp only [Act.put, List.setIfInBounds_toArray, List.set_cons_zero, List.set_cons_succ]
      clear hHeld
      have hHeld : (fun w' => IsB w' HV #[.int .i64 x, .int .u64 y] 28 ∧ IsB w' HH (hdR h).cells 30 ∧ IsB w' HT (tlR h).cells 30) X3 := SA.out _ BC.out
      refine oneL (i := 5) (by kernel_rfl) rfl (fun K hK => ?_)
      have hRow := Rg.one 30 5 (show IsB X3 gh (hdR h).cs.toArray 30 from hHb.out) rfl ((es_rfs [hdR h]).one _ (by simp)) hgh.out
      obtain ⟨qa, qc, X4, hap, hrow, hkp⟩ := Rg.app ty_ref (by omega) hRow vm _ (es_rfs _) (Rg.src hMb.out) (by simp; have := hml.out; omega) BC.out.size 22
      simp only [List.length_cons, List.length_nil, List.length_map, Nat.zero_add] at hap hrow
      have HA5 := hide hap
      have hRb := hide hrow
      replace BC := hide (BC.out.trans (hkp.to_below BC.out.size (by simpa [Value.ownBlock] using hgh.out)))
      replace hTb := hide (hTb.out.kp hkp (by simpa [Value.ownBlock] using fun e => hne.out e.symm))
      clear hap hrow hkp hRow
      refine step_append_eq rfl (.tmp 22) (.tmp 25) 22 rfl _ _ (.slice qa (1 + M.length) qc) X4 rfl rfl HA5.out ?_
      refine hK.out _ _ ?_ ?_
      · exact SA.out _ BC.out
      clear hK K
      try simp only [Act.put, List.setIfInBounds_toArray]
      clear hHeld
      have hHeld : (fun w' => IsB w' HV #[.int .i64 x, .int .u64 y] 28 ∧ IsB w' HH (hdR h).cells 30 ∧ IsB w' HT (tlR h).cells 30) X4 := SA.out _ BC.out
      refine oneL (i := 8) (by kernel_rfl) rfl (fun K hK => ?_)
      obtain ⟨ra, rc, X5, hap, hrow, hkp⟩ := Rg.push ty_ref (by omega) hRb.out (tlR h).cs rfl ((es_rfs [tlR h]).one _ (by simp)) gt 1 hTb.out (by simp; have := hml.out; omega) BC.out.size 22
      have e7 : (([hdR h].map Rf.cs ++ M.map Rf.cs).length) = 1 + M.length := by simp; omega
      simp only [List.map_cons, List.map_nil] at e7
      rw [e7] at hap hrow
      have HA8 := hide hap
      have HR := hide hrow
      have hnb := hRb.out.new
      replace BC := hide (BC.out.trans (hkp.to_below BC.out.size (fun k hk => hnb k (by simpa using hk))))
      clear hap hrow hkp hnb
      refine step_append_eq rfl (.tmp 26) (.tmp 28) 22 rfl _ _ (.slice ra (1 + M.length + 1) rc) X5 rfl rfl HA8.out ?_
      have BG : Hid (Below G w X5) := B.out.trans (BC.out.mono hGD.out)
      refine hK.out _ _ ?_ ?_
      · exact SA.out _ BC.out
      clear hK K
      try simp only [Act.put]
      clear hHeld
      have hHeld : (fun w' => IsB w' HV #[.int .i64 x, .int .u64 y] 28 ∧ IsB w' HH (hdR h).cells 30 ∧ IsB w' HT (tlR h).cells 30) X5 := SA.out _ BC.out
      refine pickA (v := ?_) 9 (some 6) rfl rfl (by kernel_rfl) (by kernel_rfl) (by kernel_rfl) (by decide) (fun _ _ _ h => h) (by rfl) ?_ (by assumption) ?_
      rotate_left
      · intro w'
        go_simp
        try with_reducible rfl
      try simp only [Act.put]
      refine doneL (by kernel_rfl) ?_ _
      clear hHeld
      go_wp2
      go_ret
      refine ⟨_, rfl, ?_, hGV.out ▸ BG.out⟩
      rw [← hGV.out, HM0.out]
      have e9 := Rg.mono HR.out hGD.out
      unfold Gr5 rowL
      simpa using e9
  · refine ⟨_, rfl, fun K hK => ?_⟩
    go_simp
    obtain ⟨gt, hgq⟩ : ∃ n, n = WD.heap.size := ⟨_, rfl⟩
    have bx := gal1 WD (.cells #[.int .i64 1, .int .i64 3, .int .u64 0, .int .i64 h, .int .u64 0] 30)
    have hTb : Hid (IsB (WD.alloc (.cells #[.int .i64 1, .int .i64 3, .int .u64 0, .int .i64 h, .int .u64 0] 30)) gt (tlR h).cells 30) := by show IsB _ _ _ _; rw [hgq]; exact IsB.new WD _ _
    have hgt : Hid (WD.heap.size ≤ gt) := by show _ ≤ _; rw [hgq]; exact BC.out.size
    rw [← hgq]
    replace BC := hide (BC.out.trans (bx.mono BC.out.size))
    clear bx
    generalize hXq : WD.alloc (.cells #[.int .i64 1, .int .i64 3, .int .u64 0, .int .i64 h, .int .u64 0] 30) = X1 at *
    clear hXq hgq
    refine hK.out _ _ ?_ ?_
    · exact SA.out _ BC.out
    clear hK K
    try simp only [Act.put, List.setIfInBounds_toArray, List.set_cons_zero, List.set_cons_succ]
    clear hHeld
    have hHeld : (fun w' => IsB w' HV #[.int .i64 x, .int .u64 y] 28 ∧ IsB w' HH (hdR h).cells 30 ∧ IsB w' HT (tlR h).cells 30) X1 := SA.out _ BC.out
    refine manyL (L := [1, 4]) (by kernel_rfl) (by decide) (fun i hi => ?_)
    simp only [List.mem_cons, List.not_mem_nil, or_false] at hi
    rcases hi with rfl | rfl
    · refine ⟨_, rfl, fun K hK => ?_⟩
      go_simp
      obtain ⟨gh, hgq⟩ : ∃ n, n = X1.heap.size := ⟨_, rfl⟩
      have bx := gal1 X1 (.cells #[.int .i64 0, .int .i64 1, .int .u64 0, .int .i64 h, .int .u64 0] 30)
      have hHb : Hid (IsB (X1.alloc (.cells #[.int .i64 0, .int .i64 1, .int .u64 0, .int .i64 h, .int .u64 0] 30)) gh (hdR h).cells 30) := by show IsB _ _ _ _; rw [hgq]; exact IsB.new X1 _ _
      have hgh : Hid (WD.heap.size ≤ gh) := by show _ ≤ _; rw [hgq]; exact BC.out.size
      rw [← hgq]
      have hne : Hid (gh ≠ gt) := by have := hTb.out.lt; show _ ≠ _; omega
      replace hTb := hide (hTb.out.below bx)
      replace BC := hide (BC.out.trans (bx.mono BC.out.size))
      clear bx
      generalize hXq : X1.alloc (.cells #[.int .i64 0, .int .i64 1, .int .u64 0, .int .i64 h, .int .u64 0] 30) = X2 at *
      clear hXq hgq
      refine hK.out _ _ ?_ ?_
      · exact SA.out _ BC.out
      clear hK K
      try simp only [Act.put, List.setIfInBounds_toArray, List.set_cons_zero, List.set_cons_succ]
      clear hHeld
      have hHeld : (fun w' => IsB w' HV #[.int .i64 x, .int .u64 y] 28 ∧ IsB w' HH (hdR h).cells 30 ∧ IsB w' HT (tlR h).cells 30) X2 := SA.out _ BC.out
      refine oneL (i := 4) (by kernel_rfl) rfl (fun K hK => ?_)
      go_simp
      refine (members_any x y hy v l hl hbt X2 (RA.out _ BC.out)).mono ?_
      rintro e X3 ⟨vm, rfl, hM, hb⟩
      rw [HM0.out] at hM
      have hMb := hide (Rg.mono hM BC.out.size)
      replace BC := hide (BC.out.trans (hb.mono BC.out.size))
      replace hHb := hide (hHb.out.below hb)
      replace hTb := hide (hTb.out.below hb)
      clear hb hM
      refine hK.out _ _ ?_ ?_
      · exact SA.out _ BC.out
      clear hK K
      try simp only [Act.put, List.setIfInBounds_toArray, List.set_cons_zero, List.set_cons_succ]
      clear hHeld
      have hHeld : (fun w' => IsB w' HV #[.int .i64 x, .int .u64 y] 28 ∧ IsB w' HH (hdR h).cells 30 ∧ IsB w' HT (tlR h).cells 30) X3 := SA.out _ BC.out
      refine oneL (i := 5) (by kernel_rfl) rfl (fun K hK => ?_)
      have hRow := Rg.one 30 5 (show IsB X3 gh (hdR h).cs.toArray 30 from hHb.out) rfl ((es_rfs [hdR h]).one _ (by simp)) hgh.out
      obtain ⟨qa, qc, X4, hap, hrow, hkp⟩ := Rg.app ty_ref (by omega) hRow vm _ (es_rfs _) (Rg.src hMb.out) (by simp; have := hml.out; omega) BC.out.size 22
      simp only [List.length_cons, List.length_nil, List.length_map, Nat.zero_add] at hap hrow
      have HA5 := hide hap
      have hRb := hide hrow
      replace BC := hide (BC.out.trans (hkp.to_below BC.out.size (by simpa [Value.ownBlock] using hgh.out)))
      replace hTb := hide (hTb.out.kp hkp (by simpa [Value.ownBlock] using fun e => hne.out e.symm))
      clear hap hrow hkp hRow
      refine step_append_eq rfl (.tmp 22) (.tmp 25) 22 rfl _ _ (.slice qa (1 + M.length) qc) X4 rfl rfl HA5.out ?_
      refine hK.out _ _ ?_ ?_
      · exact SA.out _ BC.out
      clear hK K
      try simp only [Act.put, List.setIfInBounds_toArray]
      clear hHeld
      have hHeld : (fun w' => IsB w' HV #[.int .i64 x, .int .u64 y] 28 ∧ IsB w' HH (hdR h).cells 30 ∧ IsB w' HT (tlR h).cells 30) X4 := SA.out _ BC.out
      refine oneL (i := 8) (by kernel_rfl) rfl (fun K hK => ?_)
      obtain ⟨ra, rc, X5, hap, hrow, hkp⟩ := Rg.push ty_ref (by omega) hRb.out (tlR h).cs rfl ((es_rfs [tlR h]).one _ (by simp)) gt 1 hTb.out (by simp; have := hml.out; omega) BC.out.size 22
      have e7 : (([hdR h].map Rf.cs ++ M.map Rf.cs).length) = 1 + M.length := by simp; omega
      simp only [List.map_cons, List.map_nil] at e7
      rw [e7] at hap hrow
      have HA8 := hide hap
      have HR := hide hrow
      have hnb := hRb.out.new
      replace BC := hide (BC.out.trans (hkp.to_below BC.out.size (fun k hk => hnb k (by simpa using hk))))
      clear hap hrow hkp hnb
      refine step_append_eq rfl (.tmp 26) (.tmp 28) 22 rfl _ _ (.slice ra (1 + M.length + 1) rc) X5 rfl rfl HA8.out ?_
      have BG : Hid (Below G w X5) := B.out.trans (BC.out.mono hGD.out)
      refine hK.out _ _ ?_ ?_
      · exact SA.out _ BC.out
      clear hK K
      try simp only [Act.put]
      clear hHeld
      have hHeld : (fun w' => IsB w' HV #[.int .i64 x, .int .u64 y] 28 ∧ IsB w' HH (hdR h).cells 30 ∧ IsB w' HT (tlR h).cells 30) X5 := SA.out _ BC.out
      refine pickA (v := ?_) 9 (some 6) rfl rfl (by kernel_rfl) (by kernel_rfl) (by kernel_rfl) (by decide) (fun _ _ _ h => h) (by rfl) ?_ (by assumption) ?_
      rotate_left
      · intro w'
        go_simp
        try with_reducible rfl
      try simp only [Act.put]
      refine doneL (by kernel_rfl) ?_ _
      clear hHeld
      go_wp2
      go_ret
      refine ⟨_, rfl, ?_, hGV.out ▸ BG.out⟩
      rw [← hGV.out, HM0.out]
      have e9 := Rg.mono HR.out hGD.out
      unfold Gr5 rowL
      simpa using e9
    · refine ⟨_, rfl, fun K hK => ?_⟩
      go_simp
      refine (members_any x y hy v l hl hbt X1 (RA.out _ BC.out)).mono ?_
      rintro e X2 ⟨vm, rfl, hM, hb⟩
      rw [HM0.out] at hM
      have hMb := hide (Rg.mono hM BC.out.size)
      replace BC := hide (BC.out.trans (hb.mono BC.out.size))
      replace hTb := hide (hTb.out.below hb)
      clear hb hM
      refine hK.out _ _ ?_ ?_
      · exact SA.out _ BC.out
      clear hK K
      try simp only [Act.put, List.setIfInBounds_toArray, List.set_cons_zero, List.set_cons_succ]
      clear hHeld
      have hHeld : (fun w' => IsB w' HV #[.int .i64 x, .int .u64 y] 28 ∧ IsB w' HH (hdR h).cells 30 ∧ IsB w' HT (tlR h).cells 30) X2 := SA.out _ BC.out
      refine oneL (i := 1) (by kernel_rfl) rfl (fun K hK => ?_)
      go_simp
      obtain ⟨gh, hgq⟩ : ∃ n, n = X2.heap.size := ⟨_, rfl⟩
      have bx := gal1 X2 (.cells #[.int .i64 0, .int .i64 1, .int .u64 0, .int .i64 h, .int .u64 0] 30)
      have hHb : Hid (IsB (X2.alloc (.cells #[.int .i64 0, .int .i64 1, .int .u64 0, .int .i64 h, .int .u64 0] 30)) gh (hdR h).cells 30) := by show IsB _ _ _ _; rw [hgq]; exact IsB.new X2 _ _
      have hgh : Hid (WD.heap.size ≤ gh) := by show _ ≤ _; rw [hgq]; exact BC.out.size
      rw [← hgq]
      replace hMb := hide (hMb.out.below bx)
      have hne : Hid (gh ≠ gt) := by have := hTb.out.lt; show _ ≠ _; omega
      replace hTb := hide (hTb.out.below bx)
      replace BC := hide (BC.out.trans (bx.mono BC.out.size))
      clear bx
      generalize hXq : X2.alloc (.cells #[.int .i64 0, .int .i64 1, .int .u64 0, .int .i64 h, .int .u64 0] 30) = X3 at *
      clear hXq hgq
      refine hK.out _ _ ?_ ?_
      · exact SA.out _ BC.out
      clear hK K
      try simp only [Act.put, List.setIfInBounds_toArray, List.set_cons_zero, List.set_cons_succ]
      clear hHeld
      have hHeld : (fun w' => IsB w' HV #[.int .i64 x, .int .u64 y] 28 ∧ IsB w' HH (hdR h).cells 30 ∧ IsB w' HT (tlR h).cells 30) X3 := SA.out _ BC.out
      refine oneL (i := 5) (by kernel_rfl) rfl (fun K hK => ?_)
      have hRow := Rg.one 30 5 (show IsB X3 gh (hdR h).cs.toArray 30 from hHb.out) rfl ((es_rfs [hdR h]).one _ (by simp)) hgh.out
      obtain ⟨qa, qc, X4, hap, hrow, hkp⟩ := Rg.app ty_ref (by omega) hRow vm _ (es_rfs _) (Rg.src hMb.out) (by simp; have := hml.out; omega) BC.out.size 22
      simp only [List.length_cons, List.length_nil, List.length_map, Nat.zero_add] at hap hrow
      have HA5 := hide hap
      have hRb := hide hrow
      replace BC := hide (BC.out.trans (hkp.to_below BC.out.size (by simpa [Value.ownBlock] using hgh.out)))
      replace hTb := hide (hTb.out.kp hkp (by simpa [Value.ownBlock] using fun e => hne.out e.symm))
      clear hap hrow hkp hRow
      refine step_append_eq rfl (.tmp 22) (.tmp 25) 22 rfl _ _ (.slice qa (1 + M.length) qc) X4 rfl rfl HA5.out ?_
      refine hK.out _ _ ?_ ?_
      · exact SA.out _ BC.out
      clear hK K
      try simp only [Act.put, List.setIfInBounds_toArray]
      clear hHeld
      have hHeld : (fun w' => IsB w' HV #[.int .i64 x, .int .u64 y] 28 ∧ IsB w' HH (hdR h).cells 30 ∧ IsB w' HT (tlR h).cells 30) X4 := SA.out _ BC.out
      refine oneL (i := 8) (by kernel_rfl) rfl (fun K hK => ?_)
      obtain ⟨ra, rc, X5, hap, hrow, hkp⟩ := Rg.push ty_ref (by omega) hRb.out (tlR h).cs rfl ((es_rfs [tlR h]).one _ (by simp)) gt 1 hTb.out (by simp; have := hml.out; omega) BC.out.size 22
      have e7 : (([hdR h].map Rf.cs ++ M.map Rf.cs).length) = 1 + M.length := by simp; omega
      simp only [List.map_cons, List.map_nil] at e7
      rw [e7] at hap hrow
      have HA8 := hide hap
      have HR := hide hrow
      have hnb := hRb.out.new
      replace BC := hide (BC.out.trans (hkp.to_below BC.out.size (fun k hk => hnb k (by simpa using hk))))
      clear hap hrow hkp hnb
      refine step_append_eq rfl (.tmp 26) (.tmp 28) 22 rfl _ _ (.slice ra (1 + M.length + 1) rc) X5 rfl rfl HA8.out ?_
      have BG : Hid (Below G w X5) := B.out.trans (BC.out.mono hGD.out)
      refine hK.out _ _ ?_ ?_
      · exact SA.out _ BC.out
      clear hK K
      try simp only [Act.put]
      clear hHeld
      have hHeld : (fun w' => IsB w' HV #[.int .i64 x, .int .u64 y] 28 ∧ IsB w' HH (hdR h).cells 30 ∧ IsB w' HT (tlR h).cells 30) X5 := SA.out _ BC.out
      refine pickA (v := ?_) 9 (some 6) rfl rfl (by kernel_rfl) (by kernel_rfl) (by kernel_rfl) (by decide) (fun _ _ _ h => h) (by rfl) ?_ (by assumption) ?_
      rotate_left
      · intro w'
        go_simp
        try with_reducible rfl
      try simp only [Act.put]
      refine doneL (by kernel_rfl) ?_ _
      clear hHeld
      go_wp2
      go_ret
      refine ⟨_, rfl, ?_, hGV.out ▸ BG.out⟩
      rw [← hGV.out, HM0.out]
      have e9 := Rg.mono HR.out hGD.out
      unfold Gr5 rowL
      simpa using e9

end Go.Proofs.YtfcmmchppcffmaaDoor
