/- The document's insert. -/
import Derived.Test.YtfnpapaibgbjpaaYD
namespace Go.Proofs.Ytfnpapaibgbjpaa
open Go.RowKit Go.Maps

theorem Sl.at {w : World} {g o n c : Nat} {l : List It} (h : Sl w (.slice (some ⟨g, o, none⟩) n c) l) (j : Nat) (hj : j < l.length) : w.cell? ⟨g, o + j * 2, none⟩ = some (.int .u64 l[j].k) ∧ w.cell? ⟨g, o + j * 2 + 1, none⟩ = some (.slice l[j].a l[j].bs.length l[j].c) := by
  obtain ⟨g', o', c', ev, -, -, h2, h3⟩ := h.cells j hj
  injection ev with ev _ _
  injection ev with ev
  injection ev with e1 e2
  subst e1 e2
  exact ⟨h2, h3⟩

set_option maxHeartbeats 4000000 in
set_option maxRecDepth 100000 in
theorem rinsert_any (v : Value) (l : List It) (hl : l.length ≤ 10000) (y : Int) (ya : Option Addr) (yc : Nat) (yb : List UInt8) (w : World) (h : Sl w v l) (hy : RdI w (⟨y, ya, yc, yb⟩ : It)) :
    Calls Try.prog 41 #[v, .agg #[.int .u64 y, .slice ya yb.length yc]] w fun e w' => ∃ v', e = .returned v' ∧ Ro w w' v' (l.take (ph y l) ++ (⟨y, ya, yc, yb⟩ : It) :: l.drop (ph y l)) := by
  have mixed : Try.prog.follows .mixedOrders = true := by kernel_rfl
  obtain ⟨va, vc, rfl, -, -⟩ := h.shape
  obtain ⟨yn, hyn⟩ : ∃ z, yb.length = z := ⟨_, rfl⟩
  rw [hyn]
  have b1 := (Below.refl w.heap.size w).alloc (Nat.le_refl _) (.cells #[.int .u64 y, .slice ya yn yc] 61)
  have Xb := hide (IsB.new w #[.int .u64 y, .slice ya yn yc] 61)
  have H1 := hide (h.below b1)
  have HY := hide (hy.below b1)
  have B1 := hide b1
  have HL0 := hide h.2
  have HY0 := hide hy
  clear h hy b1
  have HPL := ph_le y l
  generalize hn : l.length = n at *
  replace hn := hide hn
  replace hyn := hide hyn
  generalize hP : ph y l = P at *
  replace hP := hide hP
  go_enter Try.func41, Try.ntmps41
  go_wp2
  generalize w.alloc (.cells #[.int .u64 y, .slice ya yn yc] 61) = W at *
  generalize hH : w.heap.size = H at Xb ⊢
  replace hH := hide hH
  go_loopw [5, 6, 7] (fun mv pt i wr => ∃ (j : Nat) (qa : Option Addr) (qc : Nat) (m : List It), j ≤ n ∧ i = .int .i64 (j : Int) ∧ mv = .slice qa m.length qc ∧ Hid (Ro W wr (.slice qa m.length qc) m) ∧ ((j ≤ P ∧ pt = .bool false ∧ Hid (m = l.take j)) ∨ (P < j ∧ pt = .bool true ∧ Hid (m = l.take P ++ (⟨y, ya, yc, yb⟩ : It) :: (l.take j).drop P)))) (fun _ _ i _ => n - (intOf i).toNat)
  case atStart => exact ⟨0, none, 0, [], by omega, rfl, rfl, Ro.nil _, Or.inl ⟨by omega, rfl, by simp [Hid]⟩⟩
  case round =>
    obtain ⟨j, qa, qc, m, hj, rfl, rfl, RX, hcase⟩ := hrel
    by_cases hlt : j < n
    · have hjl : j < l.length := by rw [hn.out]; exact hlt
      obtain ⟨g, o, c, ev, -, -, h2, h3⟩ := (H1.out.below RX.out.bel).cells j hjl
      injection ev with ev el ec
      clear el
      subst ev ec
      have HRd := hide (H1.out.2 _ (List.getElem_mem hjl))
      have hin : Hid (j < P → l[j].k ≤ y) := fun hq => ph_in j hjl (by rw [hP.out]; exact hq)
      have hout : Hid (j = P → ¬l[j].k ≤ y) := fun hq => by
        have h9 := of_decide_eq_false (tw_not (fun it => decide (it.k ≤ y)) l (by unfold ph at hP; rw [hP.out]; omega))
        have e9 : (l.takeWhile fun it => decide (it.k ≤ y)).length = j := by unfold ph at hP; rw [hP.out, hq]
        simpa [e9] using h9
      have ht1 : Hid (l.take (j + 1) = l.take j ++ [l[j]]) := List.take_succ_eq_append_getElem hjl
      obtain ⟨IT, hIT⟩ : ∃ z, l[j] = z := ⟨_, rfl⟩
      rw [hIT] at h2 h3 HRd hin hout ht1
      replace hIT := hide hIT
      obtain ⟨x, xa, xc, xb⟩ := IT
      simp only [] at h2 h3 hin hout
      have y0 := (Xb.out.below RX.out.bel).cell 0
      have y1 := (Xb.out.below RX.out.bel).cell 1
      simp at y0 y1
      have b2 := (Below.refl wr.heap.size wr).drew
      have RX2 := hide (RX.out.below b2)
      clear b2
      rcases hcase with ⟨hjP, rfl, HM⟩ | ⟨hjP, rfl, HM⟩
      · have hml : m.length ≤ 100000 := by rw [HM.out, List.length_take]; omega
        by_cases hPj : j < P
        · have hxy := hin.out hPj
          obtain ⟨ra, rc, w', hap, hRo⟩ := RX2.out.push ⟨x, xa, xc, xb⟩ HRd.out hml 22
          simp only [] at hap
          have RO := hide hRo
          have HAP := hide hap
          clear hap hRo RX2 hin hout
          generalize hxb : xb.length = xn at h3 HAP
          clear hxb
          generalize hmn : m.length = mn at *
          replace hmn := hide hmn
          go_wp2
          refine regionL 12 (fun w' => w'.cell? ⟨g, o + j * 2, none⟩ = some (.int .u64 x) ∧ w'.cell? ⟨H, 0, none⟩ = some (.int .u64 y)) mixed ⟨h2, y0⟩ (fun hHeld => ?_)
          refine pickA (v := ?_) 0 (some 14) rfl rfl (by kernel_rfl) (by kernel_rfl) (by kernel_rfl) (by decide) (fun _ _ _ h => h) (by rfl) ?_ (by assumption) ?_
          rotate_left
          · intro w'
            go_simp
            try with_reducible rfl
          try simp only [Act.put, List.setIfInBounds_toArray, List.set_cons_zero, List.set_cons_succ]
          refine pickA (v := ?_) 1 (some 15) rfl rfl (by kernel_rfl) (by kernel_rfl) (by kernel_rfl) (by decide) (fun _ _ _ h => h) (by rfl) ?_ (by assumption) ?_
          rotate_left
          · intro w'
            go_simp
            try with_reducible rfl
          try simp only [Act.put, List.setIfInBounds_toArray, List.set_cons_zero, List.set_cons_succ]
          refine pickA (v := ?_) 2 (some 16) rfl rfl (by kernel_rfl) (by kernel_rfl) (by kernel_rfl) (by decide) (fun _ _ _ h => h) (by rfl) ?_ (by assumption) ?_
          rotate_left
          · intro w'
            go_simp
            try with_reducible rfl
          try simp only [Act.put, List.setIfInBounds_toArray, List.set_cons_zero, List.set_cons_succ]
          refine pickA (v := ?_) 3 (some 17) rfl rfl (by kernel_rfl) (by kernel_rfl) (by kernel_rfl) (by decide) (fun _ _ _ h => h) (by rfl) ?_ (by assumption) ?_
          rotate_left
          · intro w'
            go_simp
            try with_reducible rfl
          try simp only [Act.put, List.setIfInBounds_toArray, List.set_cons_zero, List.set_cons_succ]
          refine pickA (v := ?_) 4 (some 18) rfl rfl (by kernel_rfl) (by kernel_rfl) (by kernel_rfl) (by decide) (fun _ _ _ h => h) (by rfl) ?_ (by assumption) ?_
          rotate_left
          · intro w'
            go_simp
            try with_reducible rfl
          try simp only [Act.put, List.setIfInBounds_toArray, List.set_cons_zero, List.set_cons_succ]
          refine pickA (v := ?_) 5 (some 19) rfl rfl (by kernel_rfl) (by kernel_rfl) (by kernel_rfl) (by decide) (fun _ _ _ h => h) (by rfl) ?_ (by assumption) ?_
          rotate_left
          · intro w'
            go_simp
            try with_reducible rfl
          try simp only [Act.put, List.setIfInBounds_toArray, List.set_cons_zero, List.set_cons_succ]
          refine pickA (v := ?_) 6 (some 20) rfl rfl (by kernel_rfl) (by kernel_rfl) (by kernel_rfl) (by decide) (fun _ _ _ h => h) (by rfl) ?_ (by assumption) ?_
          rotate_left
          · intro w'
            go_simp
            try with_reducible rfl
          try simp only [Act.put, List.setIfInBounds_toArray, List.set_cons_zero, List.set_cons_succ]
          refine pickL (v := ?_) 7 (some 21) rfl rfl (by kernel_rfl) (by kernel_rfl) (by kernel_rfl) (by decide) (by kernel_rfl) (by kernel_rfl) (fun _ _ _ h => h) (by rfl) ?_ (by assumption) ?_
          rotate_left
          · intro w' hSw
            obtain ⟨q0, q1⟩ := hSw
            go_simp
            try with_reducible rfl
          try simp only [Act.put, List.setIfInBounds_toArray, List.set_cons_zero, List.set_cons_succ]
          refine pickA (v := ?_) 8 (some 22) rfl rfl (by kernel_rfl) (by kernel_rfl) (by kernel_rfl) (by decide) (fun _ _ _ h => h) (by rfl) ?_ (by assumption) ?_
          rotate_left
          · intro w'
            go_simp
            try with_reducible rfl
          try simp only [Act.put, List.setIfInBounds_toArray, List.set_cons_zero, List.set_cons_succ]
          refine pickL (v := ?_) 9 (some 23) rfl rfl (by kernel_rfl) (by kernel_rfl) (by kernel_rfl) (by decide) (by kernel_rfl) (by kernel_rfl) (fun _ _ _ h => h) (by rfl) ?_ (by assumption) ?_
          rotate_left
          · intro w' hSw
            obtain ⟨q0, q1⟩ := hSw
            go_simp
            try with_reducible rfl
          try simp only [Act.put, List.setIfInBounds_toArray, List.set_cons_zero, List.set_cons_succ]
          refine pickA (v := .bool false) 10 (some 24) rfl rfl (by kernel_rfl) (by kernel_rfl) (by kernel_rfl) (by decide) (fun _ _ _ h => h) (by rfl) ?_ (by assumption) ?_
          · intro w'
            go_simp
            all_goals (simp; omega)
          try simp only [Act.put, List.setIfInBounds_toArray, List.set_cons_zero, List.set_cons_succ]
          refine pickA (v := ?_) 11 (some 25) rfl rfl (by kernel_rfl) (by kernel_rfl) (by kernel_rfl) (by decide) (fun _ _ _ h => h) (by rfl) ?_ (by assumption) ?_
          rotate_left
          · intro w'
            go_simp
            try with_reducible rfl
          try simp only [Act.put, List.setIfInBounds_toArray, List.set_cons_zero, List.set_cons_succ]
          refine doneL (by kernel_rfl) ?_ _
          clear hHeld
          go_wp2_with (at_builtin; refine wpList_append_eq rfl (.tmp 30) (.tmp 35) 22 rfl _ _ (.slice ra (mn + 1) rc) w' rfl rfl HAP.out ?_)
          exact ⟨⟨j + 1, ra, rc, m ++ [(⟨x, xa, xc, xb⟩ : It)], by omega, by simp, by simp [hmn.out], RO.out, Or.inl ⟨by omega, rfl, by show _ = _; rw [HM.out, ht1.out]⟩⟩, by simp [intOf]; omega⟩
        · have hjP2 : Hid (j = P) := by show j = P; omega
          have hxy := hout.out hjP2.out
          obtain ⟨ra, rc, w', hap, hRo⟩ := RX2.out.push (⟨y, ya, yc, yb⟩ : It) HY.out hml 22
          obtain ⟨sa, sc, w8, hap8, hRo8⟩ := hRo.push ⟨x, xa, xc, xb⟩ HRd.out (by simp; rw [HM.out, List.length_take]; omega) 22
          have hl1 : (m ++ [(⟨y, ya, yc, yb⟩ : It)]).length = m.length + 1 := by simp
          simp only [] at hap hap8
          rw [hl1] at hap8
          rw [hyn.out] at hap
          obtain ⟨k2, k3⟩ := (H1.out.below hRo.bel).at j hjl
          rw [hIT.out] at k2 k3
          simp only [] at k2 k3
          have RO := hide hRo8
          have HAP := hide hap
          have HAP8 := hide hap8
          clear hap hap8 hRo hRo8 RX2 hin hout h3
          generalize hxb : xb.length = xn at k3 HAP8
          clear hxb
          generalize hmn : m.length = mn at *
          replace hmn := hide hmn
          go_wp2
          refine regionL 12 (fun w' => w'.cell? ⟨g, o + j * 2, none⟩ = some (.int .u64 x) ∧ w'.cell? ⟨H, 0, none⟩ = some (.int .u64 y)) mixed ⟨h2, y0⟩ (fun hHeld => ?_)
          refine pickA (v := ?_) 0 (some 14) rfl rfl (by kernel_rfl) (by kernel_rfl) (by kernel_rfl) (by decide) (fun _ _ _ h => h) (by rfl) ?_ (by assumption) ?_
          rotate_left
          · intro w'
            go_simp
            try with_reducible rfl
          try simp only [Act.put, List.setIfInBounds_toArray, List.set_cons_zero, List.set_cons_succ]
          refine pickA (v := ?_) 1 (some 15) rfl rfl (by kernel_rfl) (by kernel_rfl) (by kernel_rfl) (by decide) (fun _ _ _ h => h) (by rfl) ?_ (by assumption) ?_
          rotate_left
          · intro w'
            go_simp
            try with_reducible rfl
          try simp only [Act.put, List.setIfInBounds_toArray, List.set_cons_zero, List.set_cons_succ]
          refine pickA (v := ?_) 2 (some 16) rfl rfl (by kernel_rfl) (by kernel_rfl) (by kernel_rfl) (by decide) (fun _ _ _ h => h) (by rfl) ?_ (by assumption) ?_
          rotate_left
          · intro w'
            go_simp
            try with_reducible rfl
          try simp only [Act.put, List.setIfInBounds_toArray, List.set_cons_zero, List.set_cons_succ]
          refine pickA (v := ?_) 3 (some 17) rfl rfl (by kernel_rfl) (by kernel_rfl) (by kernel_rfl) (by decide) (fun _ _ _ h => h) (by rfl) ?_ (by assumption) ?_
          rotate_left
          · intro w'
            go_simp
            try with_reducible rfl
          try simp only [Act.put, List.setIfInBounds_toArray, List.set_cons_zero, List.set_cons_succ]
          refine pickA (v := ?_) 4 (some 18) rfl rfl (by kernel_rfl) (by kernel_rfl) (by kernel_rfl) (by decide) (fun _ _ _ h => h) (by rfl) ?_ (by assumption) ?_
          rotate_left
          · intro w'
            go_simp
            try with_reducible rfl
          try simp only [Act.put, List.setIfInBounds_toArray, List.set_cons_zero, List.set_cons_succ]
          refine pickA (v := ?_) 5 (some 19) rfl rfl (by kernel_rfl) (by kernel_rfl) (by kernel_rfl) (by decide) (fun _ _ _ h => h) (by rfl) ?_ (by assumption) ?_
          rotate_left
          · intro w'
            go_simp
            try with_reducible rfl
          try simp only [Act.put, List.setIfInBounds_toArray, List.set_cons_zero, List.set_cons_succ]
          refine pickA (v := ?_) 6 (some 20) rfl rfl (by kernel_rfl) (by kernel_rfl) (by kernel_rfl) (by decide) (fun _ _ _ h => h) (by rfl) ?_ (by assumption) ?_
          rotate_left
          · intro w'
            go_simp
            try with_reducible rfl
          try simp only [Act.put, List.setIfInBounds_toArray, List.set_cons_zero, List.set_cons_succ]
          refine pickL (v := ?_) 7 (some 21) rfl rfl (by kernel_rfl) (by kernel_rfl) (by kernel_rfl) (by decide) (by kernel_rfl) (by kernel_rfl) (fun _ _ _ h => h) (by rfl) ?_ (by assumption) ?_
          rotate_left
          · intro w' hSw
            obtain ⟨q0, q1⟩ := hSw
            go_simp
            try with_reducible rfl
          try simp only [Act.put, List.setIfInBounds_toArray, List.set_cons_zero, List.set_cons_succ]
          refine pickA (v := ?_) 8 (some 22) rfl rfl (by kernel_rfl) (by kernel_rfl) (by kernel_rfl) (by decide) (fun _ _ _ h => h) (by rfl) ?_ (by assumption) ?_
          rotate_left
          · intro w'
            go_simp
            try with_reducible rfl
          try simp only [Act.put, List.setIfInBounds_toArray, List.set_cons_zero, List.set_cons_succ]
          refine pickL (v := ?_) 9 (some 23) rfl rfl (by kernel_rfl) (by kernel_rfl) (by kernel_rfl) (by decide) (by kernel_rfl) (by kernel_rfl) (fun _ _ _ h => h) (by rfl) ?_ (by assumption) ?_
          rotate_left
          · intro w' hSw
            obtain ⟨q0, q1⟩ := hSw
            go_simp
            try with_reducible rfl
          try simp only [Act.put, List.setIfInBounds_toArray, List.set_cons_zero, List.set_cons_succ]
          refine pickA (v := .bool true) 10 (some 24) rfl rfl (by kernel_rfl) (by kernel_rfl) (by kernel_rfl) (by decide) (fun _ _ _ h => h) (by rfl) ?_ (by assumption) ?_
          · intro w'
            go_simp
            all_goals (simp; omega)
          try simp only [Act.put, List.setIfInBounds_toArray, List.set_cons_zero, List.set_cons_succ]
          refine pickA (v := ?_) 11 (some 25) rfl rfl (by kernel_rfl) (by kernel_rfl) (by kernel_rfl) (by decide) (fun _ _ _ h => h) (by rfl) ?_ (by assumption) ?_
          rotate_left
          · intro w'
            go_simp
            try with_reducible rfl
          try simp only [Act.put, List.setIfInBounds_toArray, List.set_cons_zero, List.set_cons_succ]
          refine doneL (by kernel_rfl) ?_ _
          clear hHeld
          go_wp2_with (first | (at_builtin; refine wpList_append_eq rfl (.tmp 26) (.tmp 28) 22 rfl _ _ (.slice ra (mn + 1) rc) w' rfl rfl HAP.out ?_) | (at_builtin; refine wpList_append_eq rfl (.tmp 30) (.tmp 35) 22 rfl _ _ (.slice sa (mn + 1 + 1) sc) w8 rfl rfl HAP8.out ?_))
          refine ⟨⟨j + 1, sa, sc, m ++ [(⟨y, ya, yc, yb⟩ : It)] ++ [(⟨x, xa, xc, xb⟩ : It)], by omega, by simp, by simp [hmn.out], RO.out, Or.inr ⟨by omega, rfl, ?_⟩⟩, by simp [intOf]; omega⟩
          show _ = _
          rw [HM.out, ht1.out, hjP2.out, List.drop_left' (by rw [List.length_take, hn.out]; omega)]
          simp
      · have hml : m.length ≤ 100000 := by
          rw [HM.out, List.length_append, List.length_cons, List.length_take, List.length_drop, List.length_take]
          omega
        obtain ⟨ra, rc, w', hap, hRo⟩ := RX2.out.push ⟨x, xa, xc, xb⟩ HRd.out hml 22
        simp only [] at hap
        have RO := hide hRo
        have HAP := hide hap
        clear hap hRo RX2 hin hout
        generalize hxb : xb.length = xn at h3 HAP
        clear hxb
        generalize hmn : m.length = mn at *
        replace hmn := hide hmn
        go_wp2
        refine regionL 12 (fun _ => True) mixed trivial (fun hHeld => ?_)
        refine pickA (v := ?_) 0 (some 14) rfl rfl (by kernel_rfl) (by kernel_rfl) (by kernel_rfl) (by decide) (fun _ _ _ h => h) (by rfl) ?_ (by assumption) ?_
        rotate_left
        · intro w'
          go_simp
          try with_reducible rfl
        try simp only [Act.put, List.setIfInBounds_toArray, List.set_cons_zero, List.set_cons_succ]
        refine pickA (v := ?_) 1 (some 15) rfl rfl (by kernel_rfl) (by kernel_rfl) (by kernel_rfl) (by decide) (fun _ _ _ h => h) (by rfl) ?_ (by assumption) ?_
        rotate_left
        · intro w'
          go_simp
          try with_reducible rfl
        try simp only [Act.put, List.setIfInBounds_toArray, List.set_cons_zero, List.set_cons_succ]
        refine pickA (v := ?_) 2 (some 16) rfl rfl (by kernel_rfl) (by kernel_rfl) (by kernel_rfl) (by decide) (fun _ _ _ h => h) (by rfl) ?_ (by assumption) ?_
        rotate_left
        · intro w'
          go_simp
          try with_reducible rfl
        try simp only [Act.put, List.setIfInBounds_toArray, List.set_cons_zero, List.set_cons_succ]
        refine pickN 3 (some 17) rfl rfl (by kernel_rfl) (by kernel_rfl) (by kernel_rfl) (by decide) (fun _ _ _ h => h) (by rfl) (by assumption) ?_
        try simp only [Act.put, List.setIfInBounds_toArray, List.set_cons_zero, List.set_cons_succ]
        refine pickN 4 (some 18) rfl rfl (by kernel_rfl) (by kernel_rfl) (by kernel_rfl) (by decide) (fun _ _ _ h => h) (by rfl) (by assumption) ?_
        try simp only [Act.put, List.setIfInBounds_toArray, List.set_cons_zero, List.set_cons_succ]
        refine pickN 5 (some 19) rfl rfl (by kernel_rfl) (by kernel_rfl) (by kernel_rfl) (by decide) (fun _ _ _ h => h) (by rfl) (by assumption) ?_
        try simp only [Act.put, List.setIfInBounds_toArray, List.set_cons_zero, List.set_cons_succ]
        refine pickN 6 (some 20) rfl rfl (by kernel_rfl) (by kernel_rfl) (by kernel_rfl) (by decide) (fun _ _ _ h => h) (by rfl) (by assumption) ?_
        try simp only [Act.put, List.setIfInBounds_toArray, List.set_cons_zero, List.set_cons_succ]
        refine pickN 7 (some 21) rfl rfl (by kernel_rfl) (by kernel_rfl) (by kernel_rfl) (by decide) (fun _ _ _ h => h) (by rfl) (by assumption) ?_
        try simp only [Act.put, List.setIfInBounds_toArray, List.set_cons_zero, List.set_cons_succ]
        refine pickN 8 (some 22) rfl rfl (by kernel_rfl) (by kernel_rfl) (by kernel_rfl) (by decide) (fun _ _ _ h => h) (by rfl) (by assumption) ?_
        try simp only [Act.put, List.setIfInBounds_toArray, List.set_cons_zero, List.set_cons_succ]
        refine pickN 9 (some 23) rfl rfl (by kernel_rfl) (by kernel_rfl) (by kernel_rfl) (by decide) (fun _ _ _ h => h) (by rfl) (by assumption) ?_
        try simp only [Act.put, List.setIfInBounds_toArray, List.set_cons_zero, List.set_cons_succ]
        refine pickN 10 (some 24) rfl rfl (by kernel_rfl) (by kernel_rfl) (by kernel_rfl) (by decide) (fun _ _ _ h => h) (by rfl) (by assumption) ?_
        try simp only [Act.put, List.setIfInBounds_toArray, List.set_cons_zero, List.set_cons_succ]
        refine pickA (v := ?_) 11 (some 25) rfl rfl (by kernel_rfl) (by kernel_rfl) (by kernel_rfl) (by decide) (fun _ _ _ h => h) (by rfl) ?_ (by assumption) ?_
        rotate_left
        · intro w'
          go_simp
          try with_reducible rfl
        try simp only [Act.put, List.setIfInBounds_toArray, List.set_cons_zero, List.set_cons_succ]
        refine doneL (by kernel_rfl) ?_ _
        clear hHeld
        go_wp2_with (at_builtin; refine wpList_append_eq rfl (.tmp 30) (.tmp 35) 22 rfl _ _ (.slice ra (mn + 1) rc) w' rfl rfl HAP.out ?_)
        refine ⟨⟨j + 1, ra, rc, m ++ [(⟨x, xa, xc, xb⟩ : It)], by omega, by simp, by simp [hmn.out], RO.out, Or.inr ⟨by omega, rfl, ?_⟩⟩, by simp [intOf]; omega⟩
        show _ = _
        rw [HM.out, ht1.out, List.drop_append_of_le_length (by rw [List.length_take, hn.out]; omega)]
        simp
    · obtain rfl : j = n := by omega
      have y0 := (Xb.out.below RX.out.bel).cell 0
      have y1 := (Xb.out.below RX.out.bel).cell 1
      simp at y0 y1
      rcases hcase with ⟨hjP, rfl, HM⟩ | ⟨hjP, rfl, HM⟩
      · have hml : m.length ≤ 100000 := by rw [HM.out, List.length_take]; omega
        have hPe : Hid (P = j) := by show P = j; omega
        obtain ⟨ra, rc, w', hap, hRo⟩ := RX.out.push (⟨y, ya, yc, yb⟩ : It) HY.out hml 22
        simp only [] at hap
        rw [hyn.out] at hap
        have RO := hide hRo
        have HAP := hide hap
        clear hap hRo
        generalize hmn : m.length = mn at *
        replace hmn := hide hmn
        go_wp2_with (at_builtin; refine wpList_append_eq rfl (.tmp 39) (.tmp 41) 22 rfl _ _ (.slice ra (mn + 1) rc) w' rfl rfl HAP.out ?_)
        go_ret
        refine ⟨.slice ra (mn + 1) rc, rfl, ?_⟩
        have h9 := RO.out
        rw [List.length_append, hmn.out] at h9
        rw [HM.out, ← hn.out, List.take_length] at h9
        rw [hPe.out, ← hn.out, List.take_length, List.drop_length]
        refine ⟨h9.row, fun it hi => ?_, fun k hk => Nat.le_trans B1.out.size (h9.new k hk), (Kp.of_below (S := []) B1.out).trans h9.kp (by simp)⟩
        rcases List.mem_append.1 hi with hi | hi
        · exact HL0.out it hi
        · simp at hi
          rw [hi]
          exact HY0.out
      · go_wp2
        go_ret
        refine ⟨.slice qa m.length qc, rfl, ?_⟩
        have h9 := RX.out
        have e9 : m = l.take P ++ (⟨y, ya, yc, yb⟩ : It) :: l.drop P := by rw [HM.out, ← hn.out, List.take_length]
        rw [← e9]
        refine ⟨h9.row, fun it hi => ?_, fun k hk => Nat.le_trans B1.out.size (h9.new k hk), (Kp.of_below (S := []) B1.out).trans h9.kp (by simp)⟩
        rw [e9] at hi
        rcases List.mem_append.1 hi with hi | hi
        · exact HL0.out it (List.mem_of_mem_take hi)
        · rcases List.mem_cons.1 hi with hi | hi
          · rw [hi]; exact HY0.out
          · exact HL0.out it (List.mem_of_mem_drop hi)

end Go.Proofs.Ytfnpapaibgbjpaa
