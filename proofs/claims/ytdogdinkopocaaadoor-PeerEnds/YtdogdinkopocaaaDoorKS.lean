/- Two rows of owners: are they alike? By slices.Equal and by the document. -/
import Derived.Test.YtdogdinkopocaaaDoorLG
import Derived.Test.YtdogdinkopocaaaDoorKM
namespace Go.Proofs.YtdogdinkopocaaaDoor
open Go.RowKit Go.Maps

set_option maxHeartbeats 4000000 in
set_option maxRecDepth 100000 in
theorem sequal_any (v1 v2 : Value) (l1 l2 : List Ow) (hl : l1.length ≤ 100000) (w : World) (h1 : Sl w v1 l1) (h2 : Sl w v2 l2) :
    Calls Tryd.prog 86 #[v1, v2] w fun e w' => e = .returned (.bool (decide (l1 = l2))) ∧ Below w.heap.size w w' := by
  have mixed : Tryd.prog.follows .mixedOrders = true := by kernel_rfl
  obtain ⟨va, vc, rfl, -, -⟩ := h1.shape
  obtain ⟨va2, vc2, rfl, -, -⟩ := h2.shape
  by_cases hlen : l1.length = l2.length
  rotate_left
  · rw [decide_eq_false (fun e => hlen (by rw [e]))]
    clear h1 h2
    generalize l1.length = n at *
    generalize l2.length = n2 at *
    go_enter Tryd.func86, Tryd.ntmps86
    go_wp2
    go_ret
    exact ⟨rfl, Below.refl _ _⟩
  have H1 := hide h1
  have H2 := hide h2
  clear h1 h2
  rw [← hlen] at H2 ⊢
  generalize hn : l1.length = n at *
  replace hn := hide hn
  replace hlen := hide hlen
  go_enter Tryd.func86, Tryd.ntmps86
  go_wp2
  go_loopw [13] (fun i wr => ∃ j : Nat, j ≤ n ∧ i = .int .i64 (j : Int) ∧ Hid (Below w.heap.size w wr) ∧ Hid (l1.take j = l2.take j)) (fun i _ => n - (intOf i).toNat)
  case atStart => exact ⟨0, by omega, rfl, Below.refl _ _, by simp [Hid]⟩
  case round =>
    obtain ⟨j, hj, rfl, HB, HQ⟩ := hrel
    by_cases hlt : j < n
    · have hjl : j < l1.length := by rw [hn.out]; exact hlt
      have hjl2 : j < l2.length := by rw [← hlen.out]; exact hlt
      have hS1 := (H1.out.below HB.out)
      have hS2 := (H2.out.below HB.out)
      rw [← hn.out] at hS1
      rw [hlen.out] at hS2
      obtain ⟨g, k, c, ev, -, -, h3, h4⟩ := hS1.cells j hjl
      obtain ⟨g2, k2, c2, ev2, -, -, h5, h6⟩ := hS2.cells j hjl2
      clear hS1 hS2
      injection ev with ev el ec
      injection ev2 with ev2 el2 ec2
      clear el el2
      subst ev ec ev2 ec2
      have HX : Hid (l1[j] = (l1[j].1, l1[j].2)) := rfl
      have HX2 : Hid (l2[j] = (l2[j].1, l2[j].2)) := rfl
      generalize l1[j].1 = x at h3 HX
      generalize l1[j].2 = y at h4 HX
      generalize l2[j].1 = x2 at h5 HX2
      generalize l2[j].2 = y2 at h6 HX2
      by_cases hxy : x = x2 ∧ y = y2
      · replace hxy := hide hxy
        have HQ2 : Hid (l1.take (j + 1) = l2.take (j + 1)) := by
          show l1.take (j + 1) = l2.take (j + 1)
          rw [List.take_succ_eq_append_getElem hjl, List.take_succ_eq_append_getElem hjl2, HQ.out, HX.out, HX2.out, hxy.out.1, hxy.out.2]
        go_wp2
        refine regionL 9 (fun w' => w'.cell? ⟨g, k + j * 2, none⟩ = some (.int .i64 x) ∧ w'.cell? ⟨g, k + j * 2 + 1, none⟩ = some (.int .i64 y) ∧ w'.cell? ⟨g2, k2 + j * 2, none⟩ = some (.int .i64 x2) ∧ w'.cell? ⟨g2, k2 + j * 2 + 1, none⟩ = some (.int .i64 y2)) mixed ⟨h3, h4, h5, h6⟩ (fun hHeld => ?_)
        refine pickA (v := ?_) 0 (some 16) rfl rfl (by kernel_rfl) (by kernel_rfl) (by kernel_rfl) (by decide) (fun _ _ _ h => h) (by rfl) ?_ (by assumption) ?_
        rotate_left
        · intro w'
          go_simp
          try with_reducible rfl
        try simp only [Act.put, List.setIfInBounds_toArray, List.set_cons_zero, List.set_cons_succ]
        refine pickA (v := ?_) 1 (some 17) rfl rfl (by kernel_rfl) (by kernel_rfl) (by kernel_rfl) (by decide) (fun _ _ _ h => h) (by rfl) ?_ (by assumption) ?_
        rotate_left
        · intro w'
          go_simp
          try with_reducible rfl
        try simp only [Act.put, List.setIfInBounds_toArray, List.set_cons_zero, List.set_cons_succ]
        refine pickA (v := ?_) 2 (some 18) rfl rfl (by kernel_rfl) (by kernel_rfl) (by kernel_rfl) (by decide) (fun _ _ _ h => h) (by rfl) ?_ (by assumption) ?_
        rotate_left
        · intro w'
          go_simp
          try with_reducible rfl
        try simp only [Act.put, List.setIfInBounds_toArray, List.set_cons_zero, List.set_cons_succ]
        refine pickL (v := ?_) 3 (some 19) rfl rfl (by kernel_rfl) (by kernel_rfl) (by kernel_rfl) (by decide) (by kernel_rfl) (by kernel_rfl) (fun _ _ _ h => h) (by rfl) ?_ (by assumption) ?_
        rotate_left
        · intro w' hSw
          obtain ⟨q0, q1, q2, q3⟩ := hSw
          go_simp
          try with_reducible rfl
        try simp only [Act.put, List.setIfInBounds_toArray, List.set_cons_zero, List.set_cons_succ]
        refine pickA (v := ?_) 4 (some 20) rfl rfl (by kernel_rfl) (by kernel_rfl) (by kernel_rfl) (by decide) (fun _ _ _ h => h) (by rfl) ?_ (by assumption) ?_
        rotate_left
        · intro w'
          go_simp
          try with_reducible rfl
        try simp only [Act.put, List.setIfInBounds_toArray, List.set_cons_zero, List.set_cons_succ]
        refine pickA (v := ?_) 5 (some 21) rfl rfl (by kernel_rfl) (by kernel_rfl) (by kernel_rfl) (by decide) (fun _ _ _ h => h) (by rfl) ?_ (by assumption) ?_
        rotate_left
        · intro w'
          go_simp
          try with_reducible rfl
        try simp only [Act.put, List.setIfInBounds_toArray, List.set_cons_zero, List.set_cons_succ]
        refine pickA (v := ?_) 6 (some 22) rfl rfl (by kernel_rfl) (by kernel_rfl) (by kernel_rfl) (by decide) (fun _ _ _ h => h) (by rfl) ?_ (by assumption) ?_
        rotate_left
        · intro w'
          go_simp
          try with_reducible rfl
        try simp only [Act.put, List.setIfInBounds_toArray, List.set_cons_zero, List.set_cons_succ]
        refine pickL (v := ?_) 7 (some 23) rfl rfl (by kernel_rfl) (by kernel_rfl) (by kernel_rfl) (by decide) (by kernel_rfl) (by kernel_rfl) (fun _ _ _ h => h) (by rfl) ?_ (by assumption) ?_
        rotate_left
        · intro w' hSw
          obtain ⟨q0, q1, q2, q3⟩ := hSw
          go_simp
          try with_reducible rfl
        try simp only [Act.put, List.setIfInBounds_toArray, List.set_cons_zero, List.set_cons_succ]
        refine pickA (v := .bool false) 8 (some 24) rfl rfl (by kernel_rfl) (by kernel_rfl) (by kernel_rfl) (by decide) (fun _ _ _ h => h) (by rfl) ?_ (by assumption) ?_
        · intro w'
          go_simp
          simp [hxy.out.1, hxy.out.2]
        try simp only [Act.put, List.setIfInBounds_toArray, List.set_cons_zero, List.set_cons_succ]
        refine doneL (by kernel_rfl) ?_ _
        clear hHeld
        go_wp2
        exact ⟨⟨j + 1, by omega, by simp, HB.out.trans (((Below.refl _ wr).drew).mono HB.out.size), HQ2⟩, by simp [intOf]; omega⟩
      · replace hxy : Hid (x = x2 → ¬y = y2) := fun h1 h2 => hxy ⟨h1, h2⟩
        have hE : Hid (l1 ≠ l2) := by
          intro e
          have e2 : l1[j] = l2[j] := by simp [e]
          rw [HX.out, HX2.out] at e2
          injection e2 with e3 e4
          exact hxy.out e3 e4
        go_wp2
        refine regionL 9 (fun w' => w'.cell? ⟨g, k + j * 2, none⟩ = some (.int .i64 x) ∧ w'.cell? ⟨g, k + j * 2 + 1, none⟩ = some (.int .i64 y) ∧ w'.cell? ⟨g2, k2 + j * 2, none⟩ = some (.int .i64 x2) ∧ w'.cell? ⟨g2, k2 + j * 2 + 1, none⟩ = some (.int .i64 y2)) mixed ⟨h3, h4, h5, h6⟩ (fun hHeld => ?_)
        refine pickA (v := ?_) 0 (some 16) rfl rfl (by kernel_rfl) (by kernel_rfl) (by kernel_rfl) (by decide) (fun _ _ _ h => h) (by rfl) ?_ (by assumption) ?_
        rotate_left
        · intro w'
          go_simp
          try with_reducible rfl
        try simp only [Act.put, List.setIfInBounds_toArray, List.set_cons_zero, List.set_cons_succ]
        refine pickA (v := ?_) 1 (some 17) rfl rfl (by kernel_rfl) (by kernel_rfl) (by kernel_rfl) (by decide) (fun _ _ _ h => h) (by rfl) ?_ (by assumption) ?_
        rotate_left
        · intro w'
          go_simp
          try with_reducible rfl
        try simp only [Act.put, List.setIfInBounds_toArray, List.set_cons_zero, List.set_cons_succ]
        refine pickA (v := ?_) 2 (some 18) rfl rfl (by kernel_rfl) (by kernel_rfl) (by kernel_rfl) (by decide) (fun _ _ _ h => h) (by rfl) ?_ (by assumption) ?_
        rotate_left
        · intro w'
          go_simp
          try with_reducible rfl
        try simp only [Act.put, List.setIfInBounds_toArray, List.set_cons_zero, List.set_cons_succ]
        refine pickL (v := ?_) 3 (some 19) rfl rfl (by kernel_rfl) (by kernel_rfl) (by kernel_rfl) (by decide) (by kernel_rfl) (by kernel_rfl) (fun _ _ _ h => h) (by rfl) ?_ (by assumption) ?_
        rotate_left
        · intro w' hSw
          obtain ⟨q0, q1, q2, q3⟩ := hSw
          go_simp
          try with_reducible rfl
        try simp only [Act.put, List.setIfInBounds_toArray, List.set_cons_zero, List.set_cons_succ]
        refine pickA (v := ?_) 4 (some 20) rfl rfl (by kernel_rfl) (by kernel_rfl) (by kernel_rfl) (by decide) (fun _ _ _ h => h) (by rfl) ?_ (by assumption) ?_
        rotate_left
        · intro w'
          go_simp
          try with_reducible rfl
        try simp only [Act.put, List.setIfInBounds_toArray, List.set_cons_zero, List.set_cons_succ]
        refine pickA (v := ?_) 5 (some 21) rfl rfl (by kernel_rfl) (by kernel_rfl) (by kernel_rfl) (by decide) (fun _ _ _ h => h) (by rfl) ?_ (by assumption) ?_
        rotate_left
        · intro w'
          go_simp
          try with_reducible rfl
        try simp only [Act.put, List.setIfInBounds_toArray, List.set_cons_zero, List.set_cons_succ]
        refine pickA (v := ?_) 6 (some 22) rfl rfl (by kernel_rfl) (by kernel_rfl) (by kernel_rfl) (by decide) (fun _ _ _ h => h) (by rfl) ?_ (by assumption) ?_
        rotate_left
        · intro w'
          go_simp
          try with_reducible rfl
        try simp only [Act.put, List.setIfInBounds_toArray, List.set_cons_zero, List.set_cons_succ]
        refine pickL (v := ?_) 7 (some 23) rfl rfl (by kernel_rfl) (by kernel_rfl) (by kernel_rfl) (by decide) (by kernel_rfl) (by kernel_rfl) (fun _ _ _ h => h) (by rfl) ?_ (by assumption) ?_
        rotate_left
        · intro w' hSw
          obtain ⟨q0, q1, q2, q3⟩ := hSw
          go_simp
          try with_reducible rfl
        try simp only [Act.put, List.setIfInBounds_toArray, List.set_cons_zero, List.set_cons_succ]
        refine pickA (v := .bool true) 8 (some 24) rfl rfl (by kernel_rfl) (by kernel_rfl) (by kernel_rfl) (by decide) (fun _ _ _ h => h) (by rfl) ?_ (by assumption) ?_
        · intro w'
          go_simp
          exact hxy.out
        try simp only [Act.put, List.setIfInBounds_toArray, List.set_cons_zero, List.set_cons_succ]
        refine doneL (by kernel_rfl) ?_ _
        clear hHeld
        go_wp2
        go_ret
        exact ⟨by rw [decide_eq_false hE.out]; rfl, HB.out.trans (((Below.refl _ wr).drew).mono HB.out.size)⟩
    · have hE : Hid (l1 = l2) := by
        have e1 : l1.take j = l1 := List.take_of_length_le (by rw [hn.out]; omega)
        have e2 : l2.take j = l2 := List.take_of_length_le (by rw [← hlen.out]; omega)
        show l1 = l2
        rw [← e1, HQ.out, e2]
      go_wp2
      go_ret
      exact ⟨by rw [decide_eq_true hE.out]; rfl, HB.out⟩



end Go.Proofs.YtdogdinkopocaaaDoor
