/- The document's rows: without, between, insert. -/
import Derived.Test.YtfnpapaibgbjpaaYC
import Derived.Test.YtfnpapaibgbjpaaZX
namespace Go.Proofs.Ytfnpapaibgbjpaa
open Go.RowKit Go.Maps

/-- A row of one's own of items whose bytes lay there at the start. -/
structure Ro (w0 w : World) (v : Value) (l : List It) : Prop where
  row : Rw w 61 2 v l.length (its l)
  rd : ∀ it ∈ l, RdI w0 it
  new : ∀ k, v.ownBlock = some k → w0.heap.size ≤ k
  kp : Kp [] w0 w
theorem Ro.bel {w0 w : World} {v : Value} {l : List It} (h : Ro w0 w v l) : Below w0.heap.size w0 w := h.kp.to_below (Nat.le_refl _) (by simp)
theorem Ro.sl {w0 w : World} {v : Value} {l : List It} (h : Ro w0 w v l) : Sl w v l := h.row.sl fun it hi => (h.rd it hi).below h.bel
theorem Ro.nil (w : World) : Ro w w (.slice none 0 0) [] := ⟨⟨rfl, Or.inl ⟨rfl, rfl⟩⟩, by simp, fun k hk => (by cases hk), Kp.refl _ _⟩
theorem Ro.below {w0 w w' : World} {v : Value} {l : List It} (h : Ro w0 w v l) (hb : Below w.heap.size w w') : Ro w0 w' v l := ⟨h.row.below hb, h.rd, h.new, h.kp.bel hb⟩
theorem Ro.push {w0 w : World} {v : Value} {l : List It} (h : Ro w0 w v l) (x : It) (hx : RdI w0 x) (hlen : l.length ≤ 100000) (ty : TypeId) :
    ∃ qa qc w', (Builtin.append_ #[22, 22] ty #[v, .slice (some ⟨w.heap.size, 0, none⟩) 1 1]).run Try.prog (w.alloc (.cells #[.int .u64 x.k, .slice x.a x.bs.length x.c] 61)) = .ok (.slice qa (l.length + 1) qc) w' ∧ Ro w0 w' (.slice qa (l ++ [x]).length qc) (l ++ [x]) := by
  have hb := (Below.refl w.heap.size w).alloc (Nat.le_refl _) (.cells #[.int .u64 x.k, .slice x.a x.bs.length x.c] 61)
  have hg := IsB.new w #[.int .u64 x.k, .slice x.a x.bs.length x.c] 61
  have h' := h.below hb
  generalize w.alloc (.cells #[.int .u64 x.k, .slice x.a x.bs.length x.c] 61) = W at *
  obtain ⟨i0, hi0, hz0, hz1, hz2⟩ := info_parts Try.infoIt
  have hcells : ∀ j u, (its [x])[j]? = some u → W.cell? ((⟨w.heap.size, 0, none⟩ : Addr).add j) = some u := fun j u hu => by
    rw [add_none, Nat.zero_add, hg.cell j]
    simpa [its] using hu
  obtain ⟨v', w', hrun, hrw, hgr, hat, -⟩ := run_append_rw (P := Try.prog) W 22 ty 61 i0 _ 2 32 Try.underlying22 hi0 hz0 hz1 hz2 rfl v l.length (its l) h'.row (.slice (some ⟨w.heap.size, 0, none⟩) 1 1) 1 (its [x]) rfl (Or.inl ⟨⟨w.heap.size, 0, none⟩, 1, rfl, hcells⟩) (its_one [x]) (by unfold maxLen; omega) (by omega)
  obtain ⟨qa, qc, rfl, -, -⟩ := hrw.shape
  have hl : (l ++ [x]).length = l.length + 1 := by simp
  refine ⟨qa, qc, w', hrun, ?_, fun z hz => ?_, fun k hk => ?_, ?_⟩
  · rw [its_app, hl]
    exact hrw
  · rcases List.mem_append.1 hz with hz | hz
    · exact h.rd z hz
    · simp at hz
      rw [hz]
      exact hx
  · rw [hl] at hk
    rcases hat with e | e
    · exact h.new k (by rw [← e]; exact hk)
    · rw [e] at hk
      injection hk with hk
      have := h'.kp.size
      omega
  · exact h'.kp.trans (Kp.of_grown (S := v.ownBlock.toList) hgr (fun k hk => Or.inl (by rw [hk]; simp))) (fun j hj => Or.inr (h.new j (by simpa using hj)))

set_option maxHeartbeats 4000000 in
set_option maxRecDepth 100000 in
theorem rwithout_any (v : Value) (l : List It) (hl : l.length ≤ 100000) (k : Int) (w : World) (h : Sl w v l) :
    Calls Try.prog 42 #[v, .int .u64 k] w fun e w' => ∃ v', e = .returned v' ∧ Ro w w' v' (l.filter (fun it => !(it.k == k))) := by
  obtain ⟨va, vc, rfl, -, -⟩ := h.shape
  have H1 := hide h
  clear h
  generalize hn : l.length = n at *
  replace hn := hide hn
  go_enter Try.func42, Try.ntmps42
  go_wp2
  go_loopw [5, 6] (fun mv i wr => ∃ (j : Nat) (qa : Option Addr) (qc : Nat) (m : List It), j ≤ n ∧ i = .int .i64 (j : Int) ∧ mv = .slice qa m.length qc ∧ Hid (m = (l.take j).filter (fun it => !(it.k == k))) ∧ Hid (Ro w wr (.slice qa m.length qc) m)) (fun _ i _ => n - (intOf i).toNat)
  case atStart => exact ⟨0, none, 0, [], by omega, rfl, rfl, by simp [Hid], Ro.nil _⟩
  case round =>
    obtain ⟨j, qa, qc, m, hj, rfl, rfl, HM, RX⟩ := hrel
    by_cases hlt : j < n
    · have hjl : j < l.length := by rw [hn.out]; exact hlt
      obtain ⟨g, o, c, ev, -, -, h2, h3⟩ := (H1.out.below RX.out.bel).cells j hjl
      injection ev with ev el ec
      clear el
      subst ev ec
      have hml : m.length ≤ 100000 := by
        have := List.length_filter_le (fun it => !(it.k == k)) (l.take j)
        rw [← HM.out, List.length_take] at this
        omega
      have HT : Hid ((l.take (j + 1)).filter (fun it => !(it.k == k)) = m ++ (if (fun it => !(it.k == k)) l[j] then [l[j]] else [])) := by
        show _ = _
        rw [List.take_succ_eq_append_getElem hjl, List.filter_append, ← HM.out]
        cases hq : (fun it => !(it.k == k)) l[j] <;> simp only [] at hq <;> simp [hq]
      obtain ⟨ra, rc, w', hap, hRo⟩ := RX.out.push l[j] (H1.out.2 _ (List.getElem_mem hjl)) hml 22
      have RO := hide hRo
      have HAP := hide hap
      clear hap hRo
      obtain ⟨IT, hIT⟩ : ∃ z, l[j] = z := ⟨_, rfl⟩
      rw [hIT] at h2 h3 HT RO HAP
      clear hIT
      obtain ⟨x, xa, xc, xb⟩ := IT
      simp only [] at h2 h3 HAP HT
      generalize hxb : xb.length = xn at h3 HAP
      clear hxb
      generalize hmn : m.length = mn at *
      replace hmn := hide hmn
      by_cases hk : x = k
      · replace hk := hk.symm
        subst hk
        have HT2 : Hid (((l.take (j + 1)).filter (fun it => !(it.k == k))) = m) := by show _ = _; rw [HT.out]; simp []
        clear RO HAP
        go_wp2
        exact ⟨⟨j + 1, qa, qc, m, by omega, by simp, by rw [hmn.out], HT2.out.symm, by rw [hmn.out] at *; exact RX.out⟩, by simp [intOf]; omega⟩
      · have hkb : (x == k) = false := by simpa using hk
        have HT2 : Hid (((l.take (j + 1)).filter (fun it => !(it.k == k))) = m ++ [(⟨x, xa, xc, xb⟩ : It)]) := by show _ = _; rw [HT.out]; simp [hkb]
        go_wp2_with (at_builtin; refine wpList_append_eq rfl (.tmp 20) (.tmp 25) 22 rfl _ _ (.slice ra (mn + 1) rc) w' rfl rfl HAP.out ?_)
        exact ⟨⟨j + 1, ra, rc, m ++ [(⟨x, xa, xc, xb⟩ : It)], by omega, by simp, by simp [hmn.out], HT2.out.symm, RO.out⟩, by simp [intOf]; omega⟩
    · obtain rfl : j = n := by omega
      go_wp2
      go_ret
      refine ⟨_, rfl, ?_⟩
      have h9 := RX.out
      rw [HM.out] at h9
      rw [← hn.out, List.take_length] at h9
      rw [HM.out, ← hn.out, List.take_length]
      exact h9

set_option maxHeartbeats 4000000 in
set_option maxRecDepth 100000 in
theorem rbetween_any (v : Value) (l : List It) (hl : l.length ≤ 100000) (low high : Int) (w : World) (h : Sl w v l) :
    Calls Try.prog 49 #[v, .int .u64 low, .int .u64 high] w fun e w' => ∃ v', e = .returned v' ∧ Ro w w' v' (l.filter (fun it => decide (low ≤ it.k) && decide (it.k ≤ high))) := by
  obtain ⟨va, vc, rfl, -, -⟩ := h.shape
  have H1 := hide h
  clear h
  generalize hn : l.length = n at *
  replace hn := hide hn
  go_enter Try.func49, Try.ntmps49
  go_wp2
  go_loopw [7, 8] (fun mv i wr => ∃ (j : Nat) (qa : Option Addr) (qc : Nat) (m : List It), j ≤ n ∧ i = .int .i64 (j : Int) ∧ mv = .slice qa m.length qc ∧ Hid (m = (l.take j).filter (fun it => decide (low ≤ it.k) && decide (it.k ≤ high))) ∧ Hid (Ro w wr (.slice qa m.length qc) m)) (fun _ i _ => n - (intOf i).toNat)
  case atStart => exact ⟨0, none, 0, [], by omega, rfl, rfl, by simp [Hid], Ro.nil _⟩
  case round =>
    obtain ⟨j, qa, qc, m, hj, rfl, rfl, HM, RX⟩ := hrel
    by_cases hlt : j < n
    · have hjl : j < l.length := by rw [hn.out]; exact hlt
      obtain ⟨g, o, c, ev, -, -, h2, h3⟩ := (H1.out.below RX.out.bel).cells j hjl
      injection ev with ev el ec
      clear el
      subst ev ec
      have hml : m.length ≤ 100000 := by
        have := List.length_filter_le (fun it => decide (low ≤ it.k) && decide (it.k ≤ high)) (l.take j)
        rw [← HM.out, List.length_take] at this
        omega
      have HT : Hid ((l.take (j + 1)).filter (fun it => decide (low ≤ it.k) && decide (it.k ≤ high)) = m ++ (if (fun it => decide (low ≤ it.k) && decide (it.k ≤ high)) l[j] then [l[j]] else [])) := by
        show _ = _
        rw [List.take_succ_eq_append_getElem hjl, List.filter_append, ← HM.out]
        cases hq : (fun it => decide (low ≤ it.k) && decide (it.k ≤ high)) l[j] <;> simp only [] at hq <;> simp [hq]
      obtain ⟨ra, rc, w', hap, hRo⟩ := RX.out.push l[j] (H1.out.2 _ (List.getElem_mem hjl)) hml 22
      have RO := hide hRo
      have HAP := hide hap
      clear hap hRo
      obtain ⟨IT, hIT⟩ : ∃ z, l[j] = z := ⟨_, rfl⟩
      rw [hIT] at h2 h3 HT RO HAP
      clear hIT
      obtain ⟨x, xa, xc, xb⟩ := IT
      simp only [] at h2 h3 HAP HT
      generalize hxb : xb.length = xn at h3 HAP
      clear hxb
      generalize hmn : m.length = mn at *
      replace hmn := hide hmn
      by_cases h1 : low ≤ x
      · have d1 : decide (low ≤ x) = true := by simpa using h1
        by_cases h5 : x ≤ high
        · have d2 : decide (x ≤ high) = true := by simpa using h5
          have HT2 : Hid (((l.take (j + 1)).filter (fun it => decide (low ≤ it.k) && decide (it.k ≤ high))) = m ++ [(⟨x, xa, xc, xb⟩ : It)]) := by show _ = _; rw [HT.out]; simp [h1, h5]
          go_wp2_with (at_builtin; refine wpList_append_eq rfl (.tmp 31) (.tmp 36) 22 rfl _ _ (.slice ra (mn + 1) rc) w' rfl rfl HAP.out ?_)
          exact ⟨⟨j + 1, ra, rc, m ++ [(⟨x, xa, xc, xb⟩ : It)], by omega, by simp, by simp [hmn.out], HT2.out.symm, RO.out⟩, by simp [intOf]; omega⟩
        · have d2 : decide (x ≤ high) = false := by simpa using h5
          have HT2 : Hid (((l.take (j + 1)).filter (fun it => decide (low ≤ it.k) && decide (it.k ≤ high))) = m) := by show _ = _; rw [HT.out]; simp [h1, h5]
          clear RO HAP
          go_wp2
          exact ⟨⟨j + 1, qa, qc, m, by omega, by simp, by rw [hmn.out], HT2.out.symm, by rw [hmn.out] at *; exact RX.out⟩, by simp [intOf]; omega⟩
      · have d1 : decide (low ≤ x) = false := by simpa using h1
        have HT2 : Hid (((l.take (j + 1)).filter (fun it => decide (low ≤ it.k) && decide (it.k ≤ high))) = m) := by show _ = _; rw [HT.out]; simp [h1]
        clear RO HAP
        go_wp2
        exact ⟨⟨j + 1, qa, qc, m, by omega, by simp, by rw [hmn.out], HT2.out.symm, by rw [hmn.out] at *; exact RX.out⟩, by simp [intOf]; omega⟩
    · obtain rfl : j = n := by omega
      go_wp2
      go_ret
      refine ⟨_, rfl, ?_⟩
      have h9 := RX.out
      rw [HM.out] at h9
      rw [← hn.out, List.take_length] at h9
      rw [HM.out, ← hn.out, List.take_length]
      exact h9

end Go.Proofs.Ytfnpapaibgbjpaa
