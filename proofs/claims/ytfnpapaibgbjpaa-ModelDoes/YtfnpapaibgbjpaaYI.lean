/- The document's SameAll of results that say the same; some. -/
import Derived.Test.YtfnpapaibgbjpaaYH
namespace Go.Proofs.Ytfnpapaibgbjpaa
open Go.RowKit Go.Maps

theorem cas_take : ∀ (l : List Ca) (m : Nat), (cas l).take (m * 4) = cas (l.take m)
  | l, 0 => by simp [cas]
  | [], m + 1 => by simp [cas]
  | c :: l, m + 1 => by
    rw [show (m + 1) * 4 = m * 4 + 1 + 1 + 1 + 1 by omega]
    simp [cas, cas_take l m]
theorem Cs.cut {w : World} {a : Option Addr} {n c : Nat} {l : List Ca} (h : Cs w (.slice a n c) l) (m : Nat) (hm : m ≤ l.length) : Cs w (.slice a m c) (l.take m) := by
  refine ⟨?_, fun z hi => h.2 z (List.mem_of_mem_take hi)⟩
  obtain ⟨⟨a', c', h1, h2, h3, h4⟩, -⟩ := h
  injection h1 with h1 _ h6
  subst h1 h6
  refine ⟨a, c, by rw [List.length_take, Nat.min_eq_left hm], by rw [List.length_take]; omega, h3, fun j hj => ?_⟩
  rw [List.length_take] at hj
  obtain ⟨g, o, e, h5⟩ := h4 j (by omega)
  refine ⟨g, o, e, fun j u hu => ?_⟩
  rw [← cas_take, List.getElem?_take] at hu
  split at hu
  · exact h5 j u hu
  · cases hu
set_option maxHeartbeats 1000000 in
theorem some_any (v : Value) (l : List Ca) (w : World) (h : Cs w v l) : Calls Try.prog 27 #[v] w fun e w' => ∃ v', e = .returned v' ∧ Cs w v' (l.take 40) ∧ w' = w := by
  obtain ⟨va, vc, rfl, h1, h2⟩ : ∃ va vc, v = .slice va l.length vc ∧ l.length ≤ vc ∧ vc ≤ maxLen := by
    obtain ⟨⟨a, c, e, p, q, -⟩, -⟩ := h
    exact ⟨a, c, e, p, q⟩
  have h2 : vc ≤ 9223372036854775807 := by unfold maxLen at h2; omega
  by_cases hn : l.length ≤ 40
  · have HS : Hid (Cs w (.slice va l.length vc) (l.take 40)) := by
      show Cs _ _ _
      rw [List.take_of_length_le hn]
      exact h
    have hd : decide ((40 : Int) < (l.length : Int)) = false := by simp; omega
    clear h
    generalize l.length = n at *
    go_enter Try.func27, Try.ntmps27
    go_wp2
    go_ret
    exact ⟨_, rfl, HS.out, rfl⟩
  · have HS := hide (h.cut 40 (by omega))
    have hd : decide ((40 : Int) < (l.length : Int)) = true := by simp; omega
    clear h
    generalize l.length = n at *
    have hc : 40 ≤ vc := by omega
    go_enter Try.func27, Try.ntmps27
    go_wp2
    go_ret
    exact ⟨_, rfl, HS.out, rfl⟩

theorem rss_ld {w : World} {g n cap : Nat} {rs : List Rs} (h : Rw w 46 15 (.slice (some ⟨g, 0, none⟩) n cap) rs.length (rss rs)) (i : Nat) (hi : i < rs.length) : ∀ w', Below w.heap.size w w' → (Instr.loadAt 46 (.pointer (some ⟨g, i * 15, none⟩))).run Try.prog w' = .ok (.agg rs[i].cells) w' := fun w' hb => by
  have hR := h.below hb
  obtain ⟨_, _, e, -, -⟩ := hR.shape
  injection e with _ e _
  subst e
  have h1 := Go.run_loadVar_mid (P := Try.prog) w' g (i * 15) 46 rs[i].cells.toList _ (fun j u hu => by
    have h2 := rss_get rs i hi j u hu
    have h3 := (List.getElem?_eq_some_iff.1 h2).1
    rw [rss_len] at h3
    rw [hR.cellAt _ h3]
    exact h2) Try.underlying46 rfl (by rw [Array.length_toList, rs_size]; exact res_info)
  simp only [Instr.loadAt, Instr.sureAddr, Sem.run_bind, Sem.run_pure, Result.andThen_ok, h1]
theorem sameRd (x y : Rs) (hv : x.val = y.val) (hl : x.il.length ≤ 100000) (w : World) (hx : RsRd w x) (hy : RsRd w y) : Calls Try.prog 23 #[.agg x.cells, .agg y.cells] w fun e w' => e = .returned (.bool true) ∧ Below w.heap.size w w' := by
  obtain ⟨e, k, va, vc, vb, ia, ic, il, f⟩ := x
  obtain ⟨e2, k2, va2, vc2, vb2, ia2, ic2, il2, f2⟩ := y
  simp only [Rs.val, Prod.mk.injEq] at hv
  obtain ⟨rfl, rfl, rfl, hil, rfl⟩ := hv
  exact sameR_any e k f va va2 vc vc2 vb ia ia2 ic ic2 il il2 w hx.rd hx.vn hy.rd hy.vn hx.it hy.it hil hl

set_option maxHeartbeats 1600000 in
set_option maxRecDepth 100000 in
theorem sameAll_any (v v2 : Value) (rs ys : List Rs) (hl : rs.length ≤ 100000) (w : World) (h1 : Rw w 46 15 v rs.length (rss rs)) (h2 : Rw w 46 15 v2 ys.length (rss ys)) (r1 : ∀ r ∈ rs, RsRd w r) (r2 : ∀ r ∈ ys, RsRd w r) (hil : ∀ r ∈ rs, r.il.length ≤ 100000) (hv : rs.map Rs.val = ys.map Rs.val) :
    Calls Try.prog 30 #[v, v2] w fun e w' => e = .returned (.bool true) ∧ Below w.heap.size w w' := by
  have mixed : Try.prog.follows .mixedOrders = true := by kernel_rfl
  obtain ⟨va, vc, rfl, -, -⟩ := h1.shape
  obtain ⟨va2, vc2, rfl, -, -⟩ := h2.shape
  have hlen : rs.length = ys.length := by have := congrArg List.length hv; simpa using this
  have H1 := hide h1
  have H2 := hide h2
  have R1 := hide r1
  have R2 := hide r2
  have HI := hide hil
  have HV := hide hv
  have HL := hide hlen
  clear h1 h2 r1 r2 hil hv
  rw [← hlen] at H2 ⊢
  clear hlen
  generalize hn : rs.length = n at *
  replace hn := hide hn
  go_enter Try.func30, Try.ntmps30
  go_wp2
  go_loopw [5] (fun i wr => ∃ j : Nat, j ≤ n ∧ i = .int .i64 (j : Int) ∧ Hid (Below w.heap.size w wr)) (fun i _ => n - (intOf i).toNat)
  case atStart => exact ⟨0, by omega, rfl, Below.refl _ _⟩
  case round =>
    obtain ⟨j, hj, rfl, HB⟩ := hrel
    by_cases hlt : j < n
    · have hjl : j < rs.length := by rw [hn.out]; exact hlt
      have hjm : j < ys.length := by rw [← HL.out]; exact hlt
      obtain ⟨g1, cap1, ev1, -, -, -⟩ := H1.out.form (by omega)
      obtain ⟨g2, cap2, ev2, -, -, -⟩ := H2.out.form (by omega)
      injection ev1 with ev1 _ ec1
      injection ev2 with ev2 _ ec2
      subst ev1 ec1 ev2 ec2
      have L1 := rss_ld (by rw [hn.out]; exact H1.out) j hjl
      have L2 := rss_ld (by rw [← HL.out]; exact H2.out) j hjm
      have K1 := hide (R1.out _ (List.getElem_mem hjl))
      have K2 := hide (R2.out _ (List.getElem_mem hjm))
      have KI := hide (HI.out _ (List.getElem_mem hjl))
      have KV : Hid (rs[j].val = ys[j].val) := by
        show _ = _
        have e1 : (rs.map Rs.val)[j]? = (ys.map Rs.val)[j]? := by rw [HV.out]
        simpa [hjl, hjm] using e1
      generalize rs[j] = x at *
      generalize ys[j] = y at *
      replace L1 := hide L1
      replace L2 := hide L2
      go_wp2
      refine regionL 10 (fun w' => (Instr.loadAt 46 (.pointer (some ⟨g1, j * 15, none⟩))).run Try.prog w' = .ok (.agg x.cells) w' ∧ (Instr.loadAt 46 (.pointer (some ⟨g2, j * 15, none⟩))).run Try.prog w' = .ok (.agg y.cells) w') mixed ⟨L1.out _ (HB.out.drew), L2.out _ (HB.out.drew)⟩ (fun hHeld => ?_)
      refine pickA (v := ?_) 0 (some 17) rfl rfl (by kernel_rfl) (by kernel_rfl) (by kernel_rfl) (by decide) (fun _ _ _ h => h) (by rfl) ?_ (by assumption) ?_
      rotate_left
      · intro w'
        go_simp
        try with_reducible rfl
      try simp only [Act.put, List.setIfInBounds_toArray, List.set_cons_zero, List.set_cons_succ]
      refine pickA (v := ?_) 1 (some 18) rfl rfl (by kernel_rfl) (by kernel_rfl) (by kernel_rfl) (by decide) (fun _ _ _ h => h) (by rfl) ?_ (by assumption) ?_
      rotate_left
      · intro w'
        go_simp
        try with_reducible rfl
      try simp only [Act.put, List.setIfInBounds_toArray, List.set_cons_zero, List.set_cons_succ]
      refine pickA (v := .pointer (some ⟨g1, j * 15, none⟩)) 2 (some 19) rfl rfl (by kernel_rfl) (by kernel_rfl) (by kernel_rfl) (by decide) (fun _ _ _ h => h) (by rfl) ?_ (by assumption) ?_
      · intro w'
        go_simp
      try simp only [Act.put, List.setIfInBounds_toArray, List.set_cons_zero, List.set_cons_succ]
      refine pickL (v := .agg x.cells) 3 (some 20) rfl rfl (by kernel_rfl) (by kernel_rfl) (by kernel_rfl) (by decide) (by kernel_rfl) (by kernel_rfl) (fun _ _ _ h => h) (by rfl) ?_ (by assumption) ?_
      · intro w' hSw
        obtain ⟨q0, q1⟩ := hSw
        exact exec_load rfl rfl q0
      try simp only [Act.put, List.setIfInBounds_toArray, List.set_cons_zero, List.set_cons_succ]
      refine pickA (v := ?_) 4 (some 21) rfl rfl (by kernel_rfl) (by kernel_rfl) (by kernel_rfl) (by decide) (fun _ _ _ h => h) (by rfl) ?_ (by assumption) ?_
      rotate_left
      · intro w'
        go_simp
        try with_reducible rfl
      try simp only [Act.put, List.setIfInBounds_toArray, List.set_cons_zero, List.set_cons_succ]
      refine pickA (v := ?_) 5 (some 22) rfl rfl (by kernel_rfl) (by kernel_rfl) (by kernel_rfl) (by decide) (fun _ _ _ h => h) (by rfl) ?_ (by assumption) ?_
      rotate_left
      · intro w'
        go_simp
        try with_reducible rfl
      try simp only [Act.put, List.setIfInBounds_toArray, List.set_cons_zero, List.set_cons_succ]
      refine pickA (v := .pointer (some ⟨g2, j * 15, none⟩)) 6 (some 23) rfl rfl (by kernel_rfl) (by kernel_rfl) (by kernel_rfl) (by decide) (fun _ _ _ h => h) (by rfl) ?_ (by assumption) ?_
      · intro w'
        go_simp
      try simp only [Act.put, List.setIfInBounds_toArray, List.set_cons_zero, List.set_cons_succ]
      refine pickL (v := .agg y.cells) 7 (some 24) rfl rfl (by kernel_rfl) (by kernel_rfl) (by kernel_rfl) (by decide) (by kernel_rfl) (by kernel_rfl) (fun _ _ _ h => h) (by rfl) ?_ (by assumption) ?_
      · intro w' hSw
        obtain ⟨q0, q1⟩ := hSw
        exact exec_load rfl rfl q1
      try simp only [Act.put, List.setIfInBounds_toArray, List.set_cons_zero, List.set_cons_succ]
      refine oneL (i := 8) (by kernel_rfl) rfl (fun K hK => ?_)
      go_simp
      have HBD := hide (HB.out.drew)
      refine (sameRd x y KV.out KI.out _ (K1.out.below HBD.out) (K2.out.below HBD.out)).mono ?_
      rintro e w21 ⟨rfl, hb⟩
      have HB2 := hide (HBD.out.trans (hb.mono HBD.out.size))
      clear hb
      refine hK.out _ _ ?_ ?_
      · exact ⟨L1.out _ HB2.out, L2.out _ HB2.out⟩
      clear hK K
      try simp only [Act.put, List.setIfInBounds_toArray, List.set_cons_zero, List.set_cons_succ]
      clear hHeld
      have hHeld : (fun w' => (Instr.loadAt 46 (.pointer (some ⟨g1, j * 15, none⟩))).run Try.prog w' = .ok (.agg x.cells) w' ∧ (Instr.loadAt 46 (.pointer (some ⟨g2, j * 15, none⟩))).run Try.prog w' = .ok (.agg y.cells) w') w21 := ⟨L1.out _ HB2.out, L2.out _ HB2.out⟩
      refine pickA (v := ?_) 9 (some 26) rfl rfl (by kernel_rfl) (by kernel_rfl) (by kernel_rfl) (by decide) (fun _ _ _ h => h) (by rfl) ?_ (by assumption) ?_
      rotate_left
      · intro w'
        go_simp
        try with_reducible rfl
      try simp only [Act.put, List.setIfInBounds_toArray, List.set_cons_zero, List.set_cons_succ]
      refine doneL (by kernel_rfl) ?_ _
      clear hHeld
      go_wp2
      exact ⟨⟨j + 1, by omega, by simp, HB2.out⟩, by simp [intOf]; omega⟩
    · go_wp2
      go_ret
      exact ⟨rfl, HB.out⟩

end Go.Proofs.Ytfnpapaibgbjpaa
