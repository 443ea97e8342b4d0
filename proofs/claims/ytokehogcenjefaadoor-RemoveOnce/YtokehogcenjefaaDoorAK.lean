/- Rows of references of one's own; the law's drop. -/
import Derived.Test.YtokehogcenjefaaDoorAJ
namespace Go.Proofs.YtokehogcenjefaaDoor
open Go.RowKit Go.Maps Go.ChangeMaps

theorem addn (g o j : Nat) : (⟨g, o, none⟩ : Addr).add j = ⟨g, o + j, none⟩ := by unfold Addr.add; split <;> simp_all
theorem infoRf : (Tryd.prog.info? 29).map (fun i => (i.zero, i.size, i.bytes)) = some (some (.agg #[.int .i64 0, .int .i64 0, .int .u64 0, .int .i64 0, .int .u64 0]), 5, 40) := by kernel_rfl
/-- A row of references of one's own, laid at base or behind. -/
structure Ro (base : Nat) (w : World) (v : Value) (l : List Rf) : Prop where
  row : Rw w 29 5 v l.length (rfs l)
  new : ∀ k, v.ownBlock = some k → base ≤ k
theorem Ro.nil (base : Nat) (w : World) : Ro base w (.slice none 0 0) [] := ⟨⟨rfl, Or.inl ⟨rfl, rfl⟩⟩, fun k hk => (by cases hk)⟩
theorem Ro.below {base : Nat} {w w' : World} {v : Value} {l : List Rf} (h : Ro base w v l) (hb : Below w.heap.size w w') : Ro base w' v l := ⟨h.row.below hb, h.new⟩
theorem Ro.kp {base : Nat} {w w' : World} {v : Value} {l : List Rf} {S : List Nat} (h : Ro base w v l) (hk : Kp S w w') (hS : ∀ k ∈ S, ∀ cs, ¬ IsB w k cs 29) : Ro base w' v l :=
  ⟨h.row.kp hk fun k hk2 hm => by obtain ⟨-, cur, hc⟩ := h.row.lt k hk2; exact hS k hm cur hc, h.new⟩
theorem Ro.ne {base : Nat} {w : World} {v : Value} {l : List Rf} (h : Ro base w v l) {b : Nat} {cs : Array Value} {t : TypeId} (I : IsB w b cs t) (ht : t ≠ 29) : ∀ k ∈ v.ownBlock.toList, k ≠ b := by
  intro k hk
  obtain ⟨-, cur, hc⟩ := h.row.lt k (by simpa using hk)
  exact fun e => IsB.ne_t I (show IsB w k cur 29 from hc) ht e.symm
theorem Ro.shape {base : Nat} {w : World} {v : Value} {l : List Rf} (h : Ro base w v l) : ∃ a c, v = .slice a l.length c ∧ l.length ≤ c ∧ c ≤ maxLen := h.row.shape
theorem Ro.push {base : Nat} {w : World} {v : Value} {l : List Rf} (h : Ro base w v l) (x : Rf) (hlen : l.length ≤ 100000) (hbs : base ≤ w.heap.size) (ty : TypeId) :
    ∃ qa qc w', (Builtin.append_ #[40, 40] ty #[v, .slice (some ⟨w.heap.size, 0, none⟩) 1 1]).run Tryd.prog (w.alloc (.cells x.cells 29)) = .ok (.slice qa (l.length + 1) qc) w' ∧ Ro base w' (.slice qa (l.length + 1) qc) (l ++ [x]) ∧ Kp v.ownBlock.toList w w' := by
  have hb := (Below.refl w.heap.size w).alloc (Nat.le_refl _) (.cells x.cells 29)
  have hg := IsB.new w x.cells 29
  have h' := h.below hb
  generalize w.alloc (.cells x.cells 29) = W at *
  obtain ⟨i0, hi0, hz0, hz1, hz2⟩ := info_parts infoRf
  have hcells : ∀ j u, (rfs [x])[j]? = some u → W.cell? ((⟨w.heap.size, 0, none⟩ : Addr).add j) = some u := fun j u hu => by
    rw [addn, Nat.zero_add, hg.cell j]
    simpa [rfs, Rf.cells] using hu
  obtain ⟨v', w', hrun, hrw, hgr, hat, -⟩ := run_append_rw (P := Tryd.prog) W 40 ty 29 i0 _ 5 40 Tryd.underlying40 hi0 hz0 hz1 hz2 rfl v l.length (rfs l) h'.row (.slice (some ⟨w.heap.size, 0, none⟩) 1 1) 1 (rfs [x]) rfl (Or.inl ⟨⟨w.heap.size, 0, none⟩, 1, rfl, hcells⟩) (rfs_one [x]) (by unfold maxLen; omega) (by omega)
  obtain ⟨qa, qc, rfl, -, -⟩ := hrw.shape
  have hl : (l ++ [x]).length = l.length + 1 := by simp
  refine ⟨qa, qc, w', hrun, ⟨?_, fun k hk => ?_⟩, ?_⟩
  · rw [rfs_app, hl]
    exact hrw
  · rcases hat with e | e
    · exact h.new k (by rw [← e]; exact hk)
    · rw [e] at hk
      injection hk with hk
      have := hb.size
      omega
  · exact (Kp.of_below (S := v.ownBlock.toList) hb).tr (Kp.of_grown (S := v.ownBlock.toList) hgr (fun k hk => Or.inl (by rw [hk]; simp)))
theorem cs_get (x : Rf) (l : List Rf) (j : Nat) (hj : j < l.length) (hx : l[j] = x) (k : Nat) (hk : k < 5) : (rfs l)[j * 5 + k]? = x.cs[k]? := by
  obtain ⟨g0, g1, g2, g3, g4⟩ := rfs_get l j hj
  have : k = 0 ∨ k = 1 ∨ k = 2 ∨ k = 3 ∨ k = 4 := by omega
  rcases this with rfl | rfl | rfl | rfl | rfl
  · simpa [Rf.cs, hx] using g0
  · simpa [Rf.cs, hx] using g1
  · simpa [Rf.cs, hx] using g2
  · simpa [Rf.cs, hx] using g3
  · simpa [Rf.cs, hx] using g4
theorem Rw.ldr {w : World} {g n cap : Nat} {l : List Rf} (h : Rw w 29 5 (.slice (some ⟨g, 0, none⟩) n cap) n (rfs l)) (hn : l.length = n) (j : Nat) (hj : j < l.length) : (Instr.loadAt 29 (.pointer (some ⟨g, j * 5, none⟩))).run Tryd.prog w = .ok (.agg #[.int .i64 l[j].id, .int .i64 l[j].rk, .int .u64 l[j].kn, .int .i64 l[j].ln, .int .u64 l[j].bt]) w := by
  refine run_loadAt_mid w g (j * 5) 29 l[j].cs _ (fun k v hk => ?_) Tryd.underlying29 rfl (by kernel_rfl)
  have hk2 : k < 5 := (List.getElem?_eq_some_iff.1 hk).1
  rw [h.cellAt (j * 5 + k) (by omega), cs_get _ l j hj rfl k hk2]
  exact hk

set_option maxHeartbeats 2000000 in
set_option maxRecDepth 100000 in
theorem drop_any (v0 : Value) (l : List Rf) (hl : l.length ≤ 1000) (r : Rf) (w : World) (h : Rw w 29 5 v0 l.length (rfs l)) : Calls Tryd.prog 12 #[v0, .agg r.cells] w fun e' w' => ∃ v', e' = .returned v' ∧ Ro w.heap.size w' v' (l.filter (fun x => decide (x ≠ r))) ∧ Below w.heap.size w w' := by
  have mixed : Tryd.prog.follows .mixedOrders = true := by kernel_rfl
  have b1 := (Below.refl w.heap.size w).alloc (Nat.le_refl _) (.cells r.cells 29)
  have RB := hide (IsB.new w r.cells 29)
  have R0 := hide (h.below b1)
  have B := hide b1
  obtain ⟨va, vc, rfl, -, -⟩ := h.shape
  clear b1 h
  generalize hn : l.length = n at *
  replace hn := hide hn
  go_enter Tryd.func12, Tryd.ntmps12
  go_wp2_with fail
  generalize (w.alloc (.cells r.cells 29)) = W1 at *
  obtain ⟨H, hH⟩ : ∃ H, w.heap.size = H := ⟨_, rfl⟩
  have hHW : Hid (w.heap.size ≤ W1.heap.size) := B.out.size
  rw [hH] at RB ⊢
  go_loopw [5, 6] (fun mv i wr => ∃ (j : Nat) (qa : Option Addr) (qc : Nat) (m : List Rf), j ≤ n ∧ i = .int .i64 (j : Int) ∧ mv = .slice qa m.length qc ∧ Hid (m = (l.take j).filter (fun x => decide (x ≠ r))) ∧ Hid (Ro W1.heap.size wr (.slice qa m.length qc) m) ∧ Hid (Below W1.heap.size W1 wr)) (fun _ i _ => n - (intOf i).toNat)
  case atStart => exact ⟨0, none, 0, [], by omega, rfl, rfl, by simp [Hid], Ro.nil _ _, Below.refl _ _⟩
  case round =>
    obtain ⟨j, qa, qc, m, hj, rfl, rfl, HM, RX, BX⟩ := hrel
    by_cases hlt : j < n
    rotate_left
    · obtain rfl : j = n := by omega
      have d1 : decide ((j : Int) < j) = false := by simp
      have HF : Hid (l.filter (fun x => decide (x ≠ r)) = m) := by show _ = _; rw [HM.out, List.take_of_length_le (by rw [hn.out]; exact Nat.le_refl _)]
      go_wp2
      go_ret
      refine ⟨_, rfl, ?_, ?_⟩
      · rw [HF.out]; exact ⟨RX.out.row, fun k hk => Nat.le_trans hHW.out (RX.out.new k hk)⟩
      · exact B.out.trans (BX.out.mono hHW.out)
    have hjl : j < l.length := by rw [hn.out]; exact hlt
    have hlt2 : (j : Int) < n := by omega
    have hml : m.length ≤ 100000 := by
      have := List.length_filter_le (fun x => decide (x ≠ r)) (l.take j)
      rw [← HM.out, List.length_take] at this
      have := hn.out
      omega
    have HT : Hid ((l.take (j + 1)).filter (fun x => decide (x ≠ r)) = m ++ (if l[j] ≠ r then [l[j]] else [])) := by
      show _ = _
      rw [List.take_succ_eq_append_getElem hjl, List.filter_append, ← HM.out]
      by_cases hq : l[j] = r <;> simp [hq]
    obtain ⟨g, cap, ev, -, -, hgl⟩ := R0.out.form (by omega)
    injection ev with ev el ec
    clear el
    subst ev ec
    have LZ : Hid (∀ w', Below wr.heap.size wr w' → (Instr.loadAt 29 (.pointer (some ⟨g, j * 5, none⟩))).run Tryd.prog w' = .ok (.agg l[j].cells) w') := fun w' hb => Rw.ldr (R0.out.below (BX.out.trans (hb.mono BX.out.size))) hn.out j hjl
    replace RB := hide (RB.out.below (BX.out.mono (Nat.le_refl _)))
    obtain ⟨ra, rc, wA, hap, hRo, hKp⟩ := (RX.out.below ((Below.refl _ _).drew)).push l[j] hml (by have := BX.out.size; exact this) 40
    have RO := hide hRo
    have HAP := hide hap
    have KA := hide hKp
    clear hap hRo hKp
    generalize l[j] = z at *
    clear HM
    by_cases hz : z = r
    · have HE : Hid (decide (z = r) = true) := decide_eq_true hz
      have HT2 : Hid (m = (l.take (j + 1)).filter (fun x => decide (x ≠ r))) := by show _ = _; rw [HT.out, if_neg (by simpa using hz)]; simp
      clear HT HAP RO KA
      have RXd := hide (RX.out.below ((Below.refl _ _).drew))
      have BXd := hide BX.out.drew
      have ZD : Hid ((Instr.loadAt 29 (.pointer (some ⟨g, j * 5, none⟩))).run Tryd.prog wr.drew = .ok (.agg z.cells) wr.drew) := LZ.out _ ((Below.refl _ _).drew)
      have RD := hide (RB.out.below ((Below.refl _ _).drew))
      go_wp2_with fail
      refine regionL 6 (fun w' => (Instr.loadAt 29 (.pointer (some ⟨g, j * 5, none⟩))).run Tryd.prog w' = .ok (.agg z.cells) w' ∧ IsB w' H r.cells 29) mixed ⟨ZD.out, RD.out⟩ (fun hHeld => ?_)
      generalize hWD : wr.drew = WD at *
      refine pickA (v := ?_) 0 (some 13) rfl rfl (by kernel_rfl) (by kernel_rfl) (by kernel_rfl) (by decide) (fun _ _ _ h => h) (by rfl) ?_ (by assumption) ?_
      rotate_left
      · intro w'
        go_simp
        try with_reducible rfl
      try simp only [Act.put, List.setIfInBounds_toArray, List.set_cons_zero, List.set_cons_succ]
      refine pickA (v := ?_) 1 (some 14) rfl rfl (by kernel_rfl) (by kernel_rfl) (by kernel_rfl) (by decide) (fun _ _ _ h => h) (by rfl) ?_ (by assumption) ?_
      rotate_left
      · intro w'
        go_simp
        try with_reducible rfl
      try simp only [Act.put, List.setIfInBounds_toArray, List.set_cons_zero, List.set_cons_succ]
      refine pickA (v := ?_) 2 (some 15) rfl rfl (by kernel_rfl) (by kernel_rfl) (by kernel_rfl) (by decide) (fun _ _ _ h => h) (by rfl) ?_ (by assumption) ?_
      rotate_left
      · intro w'
        go_simp
        try with_reducible rfl
      try simp only [Act.put, List.setIfInBounds_toArray, List.set_cons_zero, List.set_cons_succ]
      refine pickL (v := .agg z.cells) 3 (some 16) rfl rfl (by kernel_rfl) (by kernel_rfl) (by kernel_rfl) (by decide) (by kernel_rfl) (by kernel_rfl) (fun _ _ _ h => h) (by rfl) ?_ (by assumption) ?_
      · intro w' hSw
        obtain ⟨q0, q1⟩ := hSw
        exact exec_load rfl rfl q0
      try simp only [Act.put, List.setIfInBounds_toArray, List.set_cons_zero, List.set_cons_succ]
      refine pickL (v := .agg r.cells) 4 (some 17) rfl rfl (by kernel_rfl) (by kernel_rfl) (by kernel_rfl) (by decide) (by kernel_rfl) (by kernel_rfl) (fun _ _ _ h => h) (by rfl) ?_ (by assumption) ?_
      · intro w' hSw
        obtain ⟨q0, q1⟩ := hSw
        exact exec_load rfl rfl (load_ref q1 rfl)
      try simp only [Act.put, List.setIfInBounds_toArray, List.set_cons_zero, List.set_cons_succ]
      refine pickA (v := .bool false) 5 (some 18) rfl rfl (by kernel_rfl) (by kernel_rfl) (by kernel_rfl) (by decide) (fun _ _ _ h => h) (by rfl) ?_ (by assumption) ?_
      · intro w'
        exact exec_bin rguard rfl rfl rfl (by rw [ner_w, HE.out]; rfl)
      try simp only [Act.put, List.setIfInBounds_toArray, List.set_cons_zero, List.set_cons_succ]
      refine doneL (by kernel_rfl) ?_ _
      clear hHeld
      go_wp2
      exact ⟨⟨j + 1, qa, qc, m, by omega, by simp, rfl, HT2, RXd, BXd⟩, by simp [intOf]; omega⟩
    · have HE : Hid (decide (z = r) = false) := decide_eq_false hz
      have HT2 : Hid (m ++ [z] = (l.take (j + 1)).filter (fun x => decide (x ≠ r))) := by show _ = _; rw [HT.out, if_pos (by simpa using hz)]
      have hKn := RX.out.new
      have BA : Hid (Below W1.heap.size W1 wA) := BX.out.drew.trans (KA.out.to_below (by have := BX.out.size; exact this) (fun k hk => hKn k (by simpa using hk)))
      clear HT KA hKn
      have ZD : Hid ((Instr.loadAt 29 (.pointer (some ⟨g, j * 5, none⟩))).run Tryd.prog wr.drew = .ok (.agg z.cells) wr.drew) := LZ.out _ ((Below.refl _ _).drew)
      have RD := hide (RB.out.below ((Below.refl _ _).drew))
      go_wp2_with fail
      refine regionL 6 (fun w' => (Instr.loadAt 29 (.pointer (some ⟨g, j * 5, none⟩))).run Tryd.prog w' = .ok (.agg z.cells) w' ∧ IsB w' H r.cells 29) mixed ⟨ZD.out, RD.out⟩ (fun hHeld => ?_)
      generalize hWD : wr.drew = WD at *
      refine pickA (v := ?_) 0 (some 13) rfl rfl (by kernel_rfl) (by kernel_rfl) (by kernel_rfl) (by decide) (fun _ _ _ h => h) (by rfl) ?_ (by assumption) ?_
      rotate_left
      · intro w'
        go_simp
        try with_reducible rfl
      try simp only [Act.put, List.setIfInBounds_toArray, List.set_cons_zero, List.set_cons_succ]
      refine pickA (v := ?_) 1 (some 14) rfl rfl (by kernel_rfl) (by kernel_rfl) (by kernel_rfl) (by decide) (fun _ _ _ h => h) (by rfl) ?_ (by assumption) ?_
      rotate_left
      · intro w'
        go_simp
        try with_reducible rfl
      try simp only [Act.put, List.setIfInBounds_toArray, List.set_cons_zero, List.set_cons_succ]
      refine pickA (v := ?_) 2 (some 15) rfl rfl (by kernel_rfl) (by kernel_rfl) (by kernel_rfl) (by decide) (fun _ _ _ h => h) (by rfl) ?_ (by assumption) ?_
      rotate_left
      · intro w'
        go_simp
        try with_reducible rfl
      try simp only [Act.put, List.setIfInBounds_toArray, List.set_cons_zero, List.set_cons_succ]
      refine pickL (v := .agg z.cells) 3 (some 16) rfl rfl (by kernel_rfl) (by kernel_rfl) (by kernel_rfl) (by decide) (by kernel_rfl) (by kernel_rfl) (fun _ _ _ h => h) (by rfl) ?_ (by assumption) ?_
      · intro w' hSw
        obtain ⟨q0, q1⟩ := hSw
        exact exec_load rfl rfl q0
      try simp only [Act.put, List.setIfInBounds_toArray, List.set_cons_zero, List.set_cons_succ]
      refine pickL (v := .agg r.cells) 4 (some 17) rfl rfl (by kernel_rfl) (by kernel_rfl) (by kernel_rfl) (by decide) (by kernel_rfl) (by kernel_rfl) (fun _ _ _ h => h) (by rfl) ?_ (by assumption) ?_
      · intro w' hSw
        obtain ⟨q0, q1⟩ := hSw
        exact exec_load rfl rfl (load_ref q1 rfl)
      try simp only [Act.put, List.setIfInBounds_toArray, List.set_cons_zero, List.set_cons_succ]
      refine pickA (v := .bool true) 5 (some 18) rfl rfl (by kernel_rfl) (by kernel_rfl) (by kernel_rfl) (by decide) (fun _ _ _ h => h) (by rfl) ?_ (by assumption) ?_
      · intro w'
        exact exec_bin rguard rfl rfl rfl (by rw [ner_w, HE.out]; rfl)
      try simp only [Act.put, List.setIfInBounds_toArray, List.set_cons_zero, List.set_cons_succ]
      refine doneL (by kernel_rfl) ?_ _
      clear hHeld
      have LQ : Hid ((Instr.loadAt 29 (.pointer (some ⟨g, j * 5, none⟩))).run Tryd.prog WD = .ok (.agg #[.int .i64 z.id, .int .i64 z.rk, .int .u64 z.kn, .int .i64 z.ln, .int .u64 z.bt]) WD) := ZD.out
      generalize hmn : m.length = mn at *
      replace hmn := hide hmn
      go_wp2_with (first | (focus ((with_reducible refine wpList_load_w ?_ 29 (.tmp 22) ?_ ?_ LQ.out ?_); rotate_left; rfl; rfl; rotate_left; rfl)) | (at_builtin; refine wpList_append_eq rfl (.tmp 19) (.tmp 24) 40 rfl _ _ (.slice ra (mn + 1) rc) wA rfl rfl HAP.out ?_))
      exact ⟨⟨j + 1, ra, rc, m ++ [z], by omega, by simp, by simp [hmn.out], HT2, by simpa [hmn.out] using RO, BA⟩, by simp [intOf]; omega⟩

end Go.Proofs.YtokehogcenjefaaDoor
