/- Two rows, two records, where a row of none may have any address: are they alike? -/
import Derived.Test.YtledkljffjomdaaDoorKT
namespace Go.Proofs.YtledkljffjomdaaDoor
open Go.RowKit Go.Maps

/-- A slice of these owners; where there are none its address may be any. -/
def SlR (w : World) (v : Value) (l : List Ow) : Prop := (∃ a c, v = .slice a l.length c) ∧ (0 < l.length → Sl w v l)
theorem Sl.r {w : World} {v : Value} {l : List Ow} (h : Sl w v l) : SlR w v l := by
  obtain ⟨a, c, e, -, -⟩ := h.shape
  exact ⟨⟨a, c, e⟩, fun _ => h⟩
theorem SlR.below {w w' : World} {v : Value} {l : List Ow} (h : SlR w v l) (hb : Below w.heap.size w w') : SlR w' v l := ⟨h.1, fun q => (h.2 q).below hb⟩

set_option maxHeartbeats 4000000 in
set_option maxRecDepth 100000 in
theorem sequalR_any (v1 v2 : Value) (l1 l2 : List Ow) (hl : l1.length ≤ 100000) (w : World) (h1 : SlR w v1 l1) (h2 : SlR w v2 l2) :
    Calls Tryd.prog 28 #[v1, v2] w fun e w' => e = .returned (.bool (decide (l1 = l2))) ∧ Below w.heap.size w w' := by
  have mixed : Tryd.prog.follows .mixedOrders = true := by kernel_rfl
  obtain ⟨va, vc, rfl⟩ := h1.1
  obtain ⟨va2, vc2, rfl⟩ := h2.1
  by_cases hlen : l1.length = l2.length
  rotate_left
  · rw [decide_eq_false (fun e => hlen (by rw [e]))]
    clear h1 h2
    generalize l1.length = n at *
    generalize l2.length = n2 at *
    go_enter Tryd.func28, Tryd.ntmps28
    go_wp2
    go_ret
    exact ⟨rfl, Below.refl _ _⟩
  have H1 := hide h1
  have H2 := hide h2
  clear h1 h2
  rw [← hlen] at H2 ⊢
  generalize hn : l1.length = n at *
  replace hn := hide hn
  replace hlen := hide hlen
  go_enter Tryd.func28, Tryd.ntmps28
  go_wp2
  go_loopw [13] (fun i wr => ∃ j : Nat, j ≤ n ∧ i = .int .i64 (j : Int) ∧ Hid (Below w.heap.size w wr) ∧ Hid (l1.take j = l2.take j)) (fun i _ => n - (intOf i).toNat)
  case atStart => exact ⟨0, by omega, rfl, Below.refl _ _, by simp [Hid]⟩
  case round =>
    obtain ⟨j, hj, rfl, HB, HQ⟩ := hrel
    by_cases hlt : j < n
    · have hjl : j < l1.length := by rw [hn.out]; exact hlt
      have hjl2 : j < l2.length := by rw [← hlen.out]; exact hlt
      have hS1 := (H1.out.2 (by omega)).below HB.out
      have hS2 := (H2.out.2 (by omega)).below HB.out
      rw [← hn.out] at hS1
      rw [hlen.out] at hS2
      obtain ⟨g, k, c, ev, -, -, h3, h4⟩ := hS1.cells j hjl
      obtain ⟨g2, k2, c2, ev2, -, -, h5, h6⟩ := hS2.cells j hjl2
      clear hS1 hS2
      injection ev with ev el ec
      injection ev2 with ev2 el2 ec2
      clear el el2
      subst ev ec ev2 ec2
      have HX : Hid (l1[j] = (l1[j].1, l1[j].2)) := rfl
      have HX2 : Hid (l2[j] = (l2[j].1, l2[j].2)) := rfl
      generalize l1[j].1 = x at h3 HX
      generalize l1[j].2 = y at h4 HX
      generalize l2[j].1 = x2 at h5 HX2
      generalize l2[j].2 = y2 at h6 HX2
      by_cases hxy : x = x2 ∧ y = y2
      · replace hxy := hide hxy
        have HQ2 : Hid (l1.take (j + 1) = l2.take (j + 1)) := by
          show l1.take (j + 1) = l2.take (j + 1)
          rw [List.take_succ_eq_append_getElem hjl, List.take_succ_eq_append_getElem hjl2, HQ.out, HX.out, HX2.out, hxy.out.1, hxy.out.2]
        go_wp2
        refine regionL 9 (fun w' => w'.cell? ⟨g, k + j * 2, none⟩ = some (.int .i64 x) ∧ w'.cell? ⟨g, k + j * 2 + 1, none⟩ = some (.int .i64 y) ∧ w'.cell? ⟨g2, k2 + j * 2, none⟩ = some (.int .i64 x2) ∧ w'.cell? ⟨g2, k2 + j * 2 + 1, none⟩ = some (.int .i64 y2)) mixed ⟨h3, h4, h5, h6⟩ (fun hHeld => ?_)
        refine pickA (v := ?_) 0 (some 16) rfl rfl (by kernel_rfl) (by kernel_rfl) (by kernel_rfl) (by decide) (fun _ _ _ h => h) (by rfl) ?_ (by assumption) ?_
        rotate_left
        · intro w'
          go_simp
          try with_reducible rfl
        try simp only [Act.put, List.setIfInBounds_toArray, List.set_cons_zero, List.set_cons_succ]
        refine pickA (v := ?_) 1 (some 17) rfl rfl (by kernel_rfl) (by kernel_rfl) (by kernel_rfl) (by decide) (fun _ _ _ h => h) (by rfl) ?_ (by assumption) ?_
        rotate_left
        · intro w'
          go_simp
          try with_reducible rfl
        try simp only [Act.put, List.setIfInBounds_toArray, List.set_cons_zero, List.set_cons_succ]
        refine pickA (v := ?_) 2 (some 18) rfl rfl (by kernel_rfl) (by kernel_rfl) (by kernel_rfl) (by decide) (fun _ _ _ h => h) (by rfl) ?_ (by assumption) ?_
        rotate_left
        · intro w'
          go_simp
          try with_reducible rfl
        try simp only [Act.put, List.setIfInBounds_toArray, List.set_cons_zero, List.set_cons_succ]
        refine pickL (v := ?_) 3 (some 19) rfl rfl (by kernel_rfl) (by kernel_rfl) (by kernel_rfl) (by decide) (by kernel_rfl) (by kernel_rfl) (fun _ _ _ h => h) (by rfl) ?_ (by assumption) ?_
        rotate_left
        · intro w' hSw
          obtain ⟨q0, q1, q2, q3⟩ := hSw
          go_simp
          try with_reducible rfl
        try simp only [Act.put, List.setIfInBounds_toArray, List.set_cons_zero, List.set_cons_succ]
        refine pickA (v := ?_) 4 (some 20) rfl rfl (by kernel_rfl) (by kernel_rfl) (by kernel_rfl) (by decide) (fun _ _ _ h => h) (by rfl) ?_ (by assumption) ?_
        rotate_left
        · intro w'
          go_simp
          try with_reducible rfl
        try simp only [Act.put, List.setIfInBounds_toArray, List.set_cons_zero, List.set_cons_succ]
        refine pickA (v := ?_) 5 (some 21) rfl rfl (by kernel_rfl) (by kernel_rfl) (by kernel_rfl) (by decide) (fun _ _ _ h => h) (by rfl) ?_ (by assumption) ?_
        rotate_left
        · intro w'
          go_simp
          try with_reducible rfl
        try simp only [Act.put, List.setIfInBounds_toArray, List.set_cons_zero, List.set_cons_succ]
        refine pickA (v := ?_) 6 (some 22) rfl rfl (by kernel_rfl) (by kernel_rfl) (by kernel_rfl) (by decide) (fun _ _ _ h => h) (by rfl) ?_ (by assumption) ?_
        rotate_left
        · intro w'
          go_simp
          try with_reducible rfl
        try simp only [Act.put, List.setIfInBounds_toArray, List.set_cons_zero, List.set_cons_succ]
        refine pickL (v := ?_) 7 (some 23) rfl rfl (by kernel_rfl) (by kernel_rfl) (by kernel_rfl) (by decide) (by kernel_rfl) (by kernel_rfl) (fun _ _ _ h => h) (by rfl) ?_ (by assumption) ?_
        rotate_left
        · intro w' hSw
          obtain ⟨q0, q1, q2, q3⟩ := hSw
          go_simp
          try with_reducible rfl
        try simp only [Act.put, List.setIfInBounds_toArray, List.set_cons_zero, List.set_cons_succ]
        refine pickA (v := .bool false) 8 (some 24) rfl rfl (by kernel_rfl) (by kernel_rfl) (by kernel_rfl) (by decide) (fun _ _ _ h => h) (by rfl) ?_ (by assumption) ?_
        · intro w'
          go_simp
          simp [hxy.out.1, hxy.out.2]
        try simp only [Act.put, List.setIfInBounds_toArray, List.set_cons_zero, List.set_cons_succ]
        refine doneL (by kernel_rfl) ?_ _
        clear hHeld
        go_wp2
        exact ⟨⟨j + 1, by omega, by simp, HB.out.trans (((Below.refl _ wr).drew).mono HB.out.size), HQ2⟩, by simp [intOf]; omega⟩
      · replace hxy : Hid (x = x2 → ¬y = y2) := fun h1 h2 => hxy ⟨h1, h2⟩
        have hE : Hid (l1 ≠ l2) := by
          intro e
          have e2 : l1[j] = l2[j] := by simp [e]
          rw [HX.out, HX2.out] at e2
          injection e2 with e3 e4
          exact hxy.out e3 e4
        go_wp2
        refine regionL 9 (fun w' => w'.cell? ⟨g, k + j * 2, none⟩ = some (.int .i64 x) ∧ w'.cell? ⟨g, k + j * 2 + 1, none⟩ = some (.int .i64 y) ∧ w'.cell? ⟨g2, k2 + j * 2, none⟩ = some (.int .i64 x2) ∧ w'.cell? ⟨g2, k2 + j * 2 + 1, none⟩ = some (.int .i64 y2)) mixed ⟨h3, h4, h5, h6⟩ (fun hHeld => ?_)
        refine pickA (v := ?_) 0 (some 16) rfl rfl (by kernel_rfl) (by kernel_rfl) (by kernel_rfl) (by decide) (fun _ _ _ h => h) (by rfl) ?_ (by assumption) ?_
        rotate_left
        · intro w'
          go_simp
          try with_reducible rfl
        try simp only [Act.put, List.setIfInBounds_toArray, List.set_cons_zero, List.set_cons_succ]
        refine pickA (v := ?_) 1 (some 17) rfl rfl (by kernel_rfl) (by kernel_rfl) (by kernel_rfl) (by decide) (fun _ _ _ h => h) (by rfl) ?_ (by assumption) ?_
        rotate_left
        · intro w'
          go_simp
          try with_reducible rfl
        try simp only [Act.put, List.setIfInBounds_toArray, List.set_cons_zero, List.set_cons_succ]
        refine pickA (v := ?_) 2 (some 18) rfl rfl (by kernel_rfl) (by kernel_rfl) (by kernel_rfl) (by decide) (fun _ _ _ h => h) (by rfl) ?_ (by assumption) ?_
        rotate_left
        · intro w'
          go_simp
          try with_reducible rfl
        try simp only [Act.put, List.setIfInBounds_toArray, List.set_cons_zero, List.set_cons_succ]
        refine pickL (v := ?_) 3 (some 19) rfl rfl (by kernel_rfl) (by kernel_rfl) (by kernel_rfl) (by decide) (by kernel_rfl) (by kernel_rfl) (fun _ _ _ h => h) (by rfl) ?_ (by assumption) ?_
        rotate_left
        · intro w' hSw
          obtain ⟨q0, q1, q2, q3⟩ := hSw
          go_simp
          try with_reducible rfl
        try simp only [Act.put, List.setIfInBounds_toArray, List.set_cons_zero, List.set_cons_succ]
        refine pickA (v := ?_) 4 (some 20) rfl rfl (by kernel_rfl) (by kernel_rfl) (by kernel_rfl) (by decide) (fun _ _ _ h => h) (by rfl) ?_ (by assumption) ?_
        rotate_left
        · intro w'
          go_simp
          try with_reducible rfl
        try simp only [Act.put, List.setIfInBounds_toArray, List.set_cons_zero, List.set_cons_succ]
        refine pickA (v := ?_) 5 (some 21) rfl rfl (by kernel_rfl) (by kernel_rfl) (by kernel_rfl) (by decide) (fun _ _ _ h => h) (by rfl) ?_ (by assumption) ?_
        rotate_left
        · intro w'
          go_simp
          try with_reducible rfl
        try simp only [Act.put, List.setIfInBounds_toArray, List.set_cons_zero, List.set_cons_succ]
        refine pickA (v := ?_) 6 (some 22) rfl rfl (by kernel_rfl) (by kernel_rfl) (by kernel_rfl) (by decide) (fun _ _ _ h => h) (by rfl) ?_ (by assumption) ?_
        rotate_left
        · intro w'
          go_simp
          try with_reducible rfl
        try simp only [Act.put, List.setIfInBounds_toArray, List.set_cons_zero, List.set_cons_succ]
        refine pickL (v := ?_) 7 (some 23) rfl rfl (by kernel_rfl) (by kernel_rfl) (by kernel_rfl) (by decide) (by kernel_rfl) (by kernel_rfl) (fun _ _ _ h => h) (by rfl) ?_ (by assumption) ?_
        rotate_left
        · intro w' hSw
          obtain ⟨q0, q1, q2, q3⟩ := hSw
          go_simp
          try with_reducible rfl
        try simp only [Act.put, List.setIfInBounds_toArray, List.set_cons_zero, List.set_cons_succ]
        refine pickA (v := .bool true) 8 (some 24) rfl rfl (by kernel_rfl) (by kernel_rfl) (by kernel_rfl) (by decide) (fun _ _ _ h => h) (by rfl) ?_ (by assumption) ?_
        · intro w'
          go_simp
          exact hxy.out
        try simp only [Act.put, List.setIfInBounds_toArray, List.set_cons_zero, List.set_cons_succ]
        refine doneL (by kernel_rfl) ?_ _
        clear hHeld
        go_wp2
        go_ret
        exact ⟨by rw [decide_eq_false hE.out]; rfl, HB.out.trans (((Below.refl _ wr).drew).mono HB.out.size)⟩
    · have hE : Hid (l1 = l2) := by
        have e1 : l1.take j = l1 := List.take_of_length_le (by rw [hn.out]; omega)
        have e2 : l2.take j = l2 := List.take_of_length_le (by rw [← hlen.out]; omega)
        show l1 = l2
        rw [← e1, HQ.out, e2]
      go_wp2
      go_ret
      exact ⟨by rw [decide_eq_true hE.out]; rfl, HB.out⟩

set_option maxHeartbeats 4000000 in
set_option maxRecDepth 100000 in
theorem rownersR_any (v1 v2 : Value) (l1 l2 : List Ow) (hl : l1.length ≤ 100000) (w : World) (h1 : SlR w v1 l1) (h2 : SlR w v2 l2) :
    Calls Tryd.prog 29 #[v1, v2] w fun e w' => e = .returned (.bool (decide (l1 = l2))) ∧ Below w.heap.size w w' := by
  have mixed : Tryd.prog.follows .mixedOrders = true := by kernel_rfl
  obtain ⟨va, vc, rfl⟩ := h1.1
  obtain ⟨va2, vc2, rfl⟩ := h2.1
  by_cases hlen : l1.length = l2.length
  rotate_left
  · rw [decide_eq_false (fun e => hlen (by rw [e]))]
    clear h1 h2
    generalize l1.length = n at *
    generalize l2.length = n2 at *
    go_enter Tryd.func29, Tryd.ntmps29
    go_wp2
    go_ret
    exact ⟨rfl, Below.refl _ _⟩
  have H1 := hide h1
  have H2 := hide h2
  clear h1 h2
  rw [← hlen] at H2 ⊢
  generalize hn : l1.length = n at *
  replace hn := hide hn
  replace hlen := hide hlen
  go_enter Tryd.func29, Tryd.ntmps29
  go_wp2
  go_loopw [5] (fun i wr => ∃ j : Nat, j ≤ n ∧ i = .int .i64 (j : Int) ∧ Hid (Below w.heap.size w wr) ∧ Hid (l1.take j = l2.take j)) (fun i _ => n - (intOf i).toNat)
  case atStart => exact ⟨0, by omega, rfl, Below.refl _ _, by simp [Hid]⟩
  case round =>
    obtain ⟨j, hj, rfl, HB, HQ⟩ := hrel
    by_cases hlt : j < n
    · have hjl : j < l1.length := by rw [hn.out]; exact hlt
      have hjl2 : j < l2.length := by rw [← hlen.out]; exact hlt
      have hS1 := (H1.out.2 (by omega)).below HB.out
      have hS2 := (H2.out.2 (by omega)).below HB.out
      rw [← hn.out] at hS1
      rw [hlen.out] at hS2
      obtain ⟨g, k, c, ev, -, -, h3, h4⟩ := hS1.cells j hjl
      obtain ⟨g2, k2, c2, ev2, -, -, h5, h6⟩ := hS2.cells j hjl2
      clear hS1 hS2
      injection ev with ev el ec
      injection ev2 with ev2 el2 ec2
      clear el el2
      subst ev ec ev2 ec2
      have HX : Hid (l1[j] = (l1[j].1, l1[j].2)) := rfl
      have HX2 : Hid (l2[j] = (l2[j].1, l2[j].2)) := rfl
      generalize l1[j].1 = x at h3 HX
      generalize l1[j].2 = y at h4 HX
      generalize l2[j].1 = x2 at h5 HX2
      generalize l2[j].2 = y2 at h6 HX2
      by_cases hxy : x = x2 ∧ y = y2
      · replace hxy := hide hxy
        have HQ2 : Hid (l1.take (j + 1) = l2.take (j + 1)) := by
          show l1.take (j + 1) = l2.take (j + 1)
          rw [List.take_succ_eq_append_getElem hjl, List.take_succ_eq_append_getElem hjl2, HQ.out, HX.out, HX2.out, hxy.out.1, hxy.out.2]
        go_wp2
        refine regionL 9 (fun w' => w'.cell? ⟨g, k + j * 2, none⟩ = some (.int .i64 x) ∧ w'.cell? ⟨g, k + j * 2 + 1, none⟩ = some (.int .i64 y) ∧ w'.cell? ⟨g2, k2 + j * 2, none⟩ = some (.int .i64 x2) ∧ w'.cell? ⟨g2, k2 + j * 2 + 1, none⟩ = some (.int .i64 y2)) mixed ⟨h3, h4, h5, h6⟩ (fun hHeld => ?_)
        refine pickA (v := ?_) 0 (some 17) rfl rfl (by kernel_rfl) (by kernel_rfl) (by kernel_rfl) (by decide) (fun _ _ _ h => h) (by rfl) ?_ (by assumption) ?_
        rotate_left
        · intro w'
          go_simp
          try with_reducible rfl
        try simp only [Act.put, List.setIfInBounds_toArray, List.set_cons_zero, List.set_cons_succ]
        refine pickA (v := ?_) 1 (some 18) rfl rfl (by kernel_rfl) (by kernel_rfl) (by kernel_rfl) (by decide) (fun _ _ _ h => h) (by rfl) ?_ (by assumption) ?_
        rotate_left
        · intro w'
          go_simp
          try with_reducible rfl
        try simp only [Act.put, List.setIfInBounds_toArray, List.set_cons_zero, List.set_cons_succ]
        refine pickA (v := ?_) 2 (some 19) rfl rfl (by kernel_rfl) (by kernel_rfl) (by kernel_rfl) (by decide) (fun _ _ _ h => h) (by rfl) ?_ (by assumption) ?_
        rotate_left
        · intro w'
          go_simp
          try with_reducible rfl
        try simp only [Act.put, List.setIfInBounds_toArray, List.set_cons_zero, List.set_cons_succ]
        refine pickL (v := ?_) 3 (some 20) rfl rfl (by kernel_rfl) (by kernel_rfl) (by kernel_rfl) (by decide) (by kernel_rfl) (by kernel_rfl) (fun _ _ _ h => h) (by rfl) ?_ (by assumption) ?_
        rotate_left
        · intro w' hSw
          obtain ⟨q0, q1, q2, q3⟩ := hSw
          go_simp
          try with_reducible rfl
        try simp only [Act.put, List.setIfInBounds_toArray, List.set_cons_zero, List.set_cons_succ]
        refine pickA (v := ?_) 4 (some 21) rfl rfl (by kernel_rfl) (by kernel_rfl) (by kernel_rfl) (by decide) (fun _ _ _ h => h) (by rfl) ?_ (by assumption) ?_
        rotate_left
        · intro w'
          go_simp
          try with_reducible rfl
        try simp only [Act.put, List.setIfInBounds_toArray, List.set_cons_zero, List.set_cons_succ]
        refine pickA (v := ?_) 5 (some 22) rfl rfl (by kernel_rfl) (by kernel_rfl) (by kernel_rfl) (by decide) (fun _ _ _ h => h) (by rfl) ?_ (by assumption) ?_
        rotate_left
        · intro w'
          go_simp
          try with_reducible rfl
        try simp only [Act.put, List.setIfInBounds_toArray, List.set_cons_zero, List.set_cons_succ]
        refine pickA (v := ?_) 6 (some 23) rfl rfl (by kernel_rfl) (by kernel_rfl) (by kernel_rfl) (by decide) (fun _ _ _ h => h) (by rfl) ?_ (by assumption) ?_
        rotate_left
        · intro w'
          go_simp
          try with_reducible rfl
        try simp only [Act.put, List.setIfInBounds_toArray, List.set_cons_zero, List.set_cons_succ]
        refine pickL (v := ?_) 7 (some 24) rfl rfl (by kernel_rfl) (by kernel_rfl) (by kernel_rfl) (by decide) (by kernel_rfl) (by kernel_rfl) (fun _ _ _ h => h) (by rfl) ?_ (by assumption) ?_
        rotate_left
        · intro w' hSw
          obtain ⟨q0, q1, q2, q3⟩ := hSw
          go_simp
          try with_reducible rfl
        try simp only [Act.put, List.setIfInBounds_toArray, List.set_cons_zero, List.set_cons_succ]
        refine pickA (v := .bool false) 8 (some 25) rfl rfl (by kernel_rfl) (by kernel_rfl) (by kernel_rfl) (by decide) (fun _ _ _ h => h) (by rfl) ?_ (by assumption) ?_
        · intro w'
          go_simp
          simp [hxy.out.1, hxy.out.2]
        try simp only [Act.put, List.setIfInBounds_toArray, List.set_cons_zero, List.set_cons_succ]
        refine doneL (by kernel_rfl) ?_ _
        clear hHeld
        go_wp2
        exact ⟨⟨j + 1, by omega, by simp, HB.out.trans (((Below.refl _ wr).drew).mono HB.out.size), HQ2⟩, by simp [intOf]; omega⟩
      · replace hxy : Hid (x = x2 → ¬y = y2) := fun h1 h2 => hxy ⟨h1, h2⟩
        have hE : Hid (l1 ≠ l2) := by
          intro e
          have e2 : l1[j] = l2[j] := by simp [e]
          rw [HX.out, HX2.out] at e2
          injection e2 with e3 e4
          exact hxy.out e3 e4
        go_wp2
        refine regionL 9 (fun w' => w'.cell? ⟨g, k + j * 2, none⟩ = some (.int .i64 x) ∧ w'.cell? ⟨g, k + j * 2 + 1, none⟩ = some (.int .i64 y) ∧ w'.cell? ⟨g2, k2 + j * 2, none⟩ = some (.int .i64 x2) ∧ w'.cell? ⟨g2, k2 + j * 2 + 1, none⟩ = some (.int .i64 y2)) mixed ⟨h3, h4, h5, h6⟩ (fun hHeld => ?_)
        refine pickA (v := ?_) 0 (some 17) rfl rfl (by kernel_rfl) (by kernel_rfl) (by kernel_rfl) (by decide) (fun _ _ _ h => h) (by rfl) ?_ (by assumption) ?_
        rotate_left
        · intro w'
          go_simp
          try with_reducible rfl
        try simp only [Act.put, List.setIfInBounds_toArray, List.set_cons_zero, List.set_cons_succ]
        refine pickA (v := ?_) 1 (some 18) rfl rfl (by kernel_rfl) (by kernel_rfl) (by kernel_rfl) (by decide) (fun _ _ _ h => h) (by rfl) ?_ (by assumption) ?_
        rotate_left
        · intro w'
          go_simp
          try with_reducible rfl
        try simp only [Act.put, List.setIfInBounds_toArray, List.set_cons_zero, List.set_cons_succ]
        refine pickA (v := ?_) 2 (some 19) rfl rfl (by kernel_rfl) (by kernel_rfl) (by kernel_rfl) (by decide) (fun _ _ _ h => h) (by rfl) ?_ (by assumption) ?_
        rotate_left
        · intro w'
          go_simp
          try with_reducible rfl
        try simp only [Act.put, List.setIfInBounds_toArray, List.set_cons_zero, List.set_cons_succ]
        refine pickL (v := ?_) 3 (some 20) rfl rfl (by kernel_rfl) (by kernel_rfl) (by kernel_rfl) (by decide) (by kernel_rfl) (by kernel_rfl) (fun _ _ _ h => h) (by rfl) ?_ (by assumption) ?_
        rotate_left
        · intro w' hSw
          obtain ⟨q0, q1, q2, q3⟩ := hSw
          go_simp
          try with_reducible rfl
        try simp only [Act.put, List.setIfInBounds_toArray, List.set_cons_zero, List.set_cons_succ]
        refine pickA (v := ?_) 4 (some 21) rfl rfl (by kernel_rfl) (by kernel_rfl) (by kernel_rfl) (by decide) (fun _ _ _ h => h) (by rfl) ?_ (by assumption) ?_
        rotate_left
        · intro w'
          go_simp
          try with_reducible rfl
        try simp only [Act.put, List.setIfInBounds_toArray, List.set_cons_zero, List.set_cons_succ]
        refine pickA (v := ?_) 5 (some 22) rfl rfl (by kernel_rfl) (by kernel_rfl) (by kernel_rfl) (by decide) (fun _ _ _ h => h) (by rfl) ?_ (by assumption) ?_
        rotate_left
        · intro w'
          go_simp
          try with_reducible rfl
        try simp only [Act.put, List.setIfInBounds_toArray, List.set_cons_zero, List.set_cons_succ]
        refine pickA (v := ?_) 6 (some 23) rfl rfl (by kernel_rfl) (by kernel_rfl) (by kernel_rfl) (by decide) (fun _ _ _ h => h) (by rfl) ?_ (by assumption) ?_
        rotate_left
        · intro w'
          go_simp
          try with_reducible rfl
        try simp only [Act.put, List.setIfInBounds_toArray, List.set_cons_zero, List.set_cons_succ]
        refine pickL (v := ?_) 7 (some 24) rfl rfl (by kernel_rfl) (by kernel_rfl) (by kernel_rfl) (by decide) (by kernel_rfl) (by kernel_rfl) (fun _ _ _ h => h) (by rfl) ?_ (by assumption) ?_
        rotate_left
        · intro w' hSw
          obtain ⟨q0, q1, q2, q3⟩ := hSw
          go_simp
          try with_reducible rfl
        try simp only [Act.put, List.setIfInBounds_toArray, List.set_cons_zero, List.set_cons_succ]
        refine pickA (v := .bool true) 8 (some 25) rfl rfl (by kernel_rfl) (by kernel_rfl) (by kernel_rfl) (by decide) (fun _ _ _ h => h) (by rfl) ?_ (by assumption) ?_
        · intro w'
          go_simp
          exact hxy.out
        try simp only [Act.put, List.setIfInBounds_toArray, List.set_cons_zero, List.set_cons_succ]
        refine doneL (by kernel_rfl) ?_ _
        clear hHeld
        go_wp2
        go_ret
        exact ⟨by rw [decide_eq_false hE.out]; rfl, HB.out.trans (((Below.refl _ wr).drew).mono HB.out.size)⟩
    · have hE : Hid (l1 = l2) := by
        have e1 : l1.take j = l1 := List.take_of_length_le (by rw [hn.out]; omega)
        have e2 : l2.take j = l2 := List.take_of_length_le (by rw [← hlen.out]; omega)
        show l1 = l2
        rw [← e1, HQ.out, e2]
      go_wp2
      go_ret
      exact ⟨by rw [decide_eq_true hE.out]; rfl, HB.out⟩

set_option maxHeartbeats 16000000 in
set_option maxRecDepth 100000 in
theorem lsameR_low (f0 f1 f2 f3 f4 f5 f6 f7 f8 f9 fa fb : Int) (fc : Bool) (fd fe : Int) (g0 g1 g2 g3 g4 g5 g6 g7 g8 g9 ga gb : Int) (gc : Bool) (gd ge : Int) (v1 v2 : Value) (l1 l2 : List Ow) (hl1 : l1.length ≤ 100000) (w : World) (h1 : SlR w v1 l1) (h2 : SlR w v2 l2) :
    Calls Tryd.prog 9 #[.agg #[.int .i64 f0, .int .u64 f1, .int .i64 f2, .int .i64 f3, .int .u64 f4, .int .i64 f5, .int .u64 f6, .int .i64 f7, .int .i64 f8, .int .u64 f9, .int .i64 fa, .int .u64 fb, .bool fc, .int .i64 fd, .int .i64 fe, v1], .agg #[.int .i64 g0, .int .u64 g1, .int .i64 g2, .int .i64 g3, .int .u64 g4, .int .i64 g5, .int .u64 g6, .int .i64 g7, .int .i64 g8, .int .u64 g9, .int .i64 ga, .int .u64 gb, .bool gc, .int .i64 gd, .int .i64 ge, v2]] w fun e w' => e = .returned (.bool (sameS ((f0, f1), (f2, f3, f4, f5, f6), (f7, f8, f9, fa, fb), fc, (fd, fe), l1) ((g0, g1), (g2, g3, g4, g5, g6), (g7, g8, g9, ga, gb), gc, (gd, ge), l2))) ∧ Below w.heap.size w w' := by
  obtain ⟨va, vc, rfl⟩ := h1.1
  obtain ⟨va2, vc2, rfl⟩ := h2.1
  have bel := hide (((Below.refl w.heap.size w).alloc (Nat.le_refl _) (.cells #[.int .i64 f0, .int .u64 f1, .int .i64 f2, .int .i64 f3, .int .u64 f4, .int .i64 f5, .int .u64 f6, .int .i64 f7, .int .i64 f8, .int .u64 f9, .int .i64 fa, .int .u64 fb, .bool fc, .int .i64 fd, .int .i64 fe, .slice va l1.length vc] 34)).alloc (by simp) (.cells #[.int .i64 g0, .int .u64 g1, .int .i64 g2, .int .i64 g3, .int .u64 g4, .int .i64 g5, .int .u64 g6, .int .i64 g7, .int .i64 g8, .int .u64 g9, .int .i64 ga, .int .u64 gb, .bool gc, .int .i64 gd, .int .i64 ge, .slice va2 l2.length vc2] 34))
  have S1 := hide h1
  have S2 := hide h2
  clear h1 h2
  have hw : ∀ w, (binOp .eql 24 (.agg #[.int .i64 f0, .int .u64 f1]) (.agg #[.int .i64 g0, .int .u64 g1])).run Tryd.prog w = .ok (.bool ((f0 == g0 && f1 == g1))) w := eqv _ _ _ _
  rcases ehw : (f0 == g0 && f1 == g1) with _ | _
  · rw [ehw] at hw
    rw [show sameS ((f0, f1), (f2, f3, f4, f5, f6), (f7, f8, f9, fa, fb), fc, (fd, fe), l1) ((g0, g1), (g2, g3, g4, g5, g6), (g7, g8, g9, ga, gb), gc, (gd, ge), l2) = false from by simp [sameS, sameR, *]]
    go_enter Tryd.func9, Tryd.ntmps9
    go_wp2
    go_ret
    exact ⟨rfl, bel.out⟩
  rw [ehw] at hw
  have hl : ∀ w, (binOp .eql 29 (.agg #[.int .i64 f2, .int .i64 f3, .int .u64 f4, .int .i64 f5, .int .u64 f6]) (.agg #[.int .i64 g2, .int .i64 g3, .int .u64 g4, .int .i64 g5, .int .u64 g6])).run Tryd.prog w = .ok (.bool ((f2 == g2 && (f3 == g3 && f4 == g4) && (f5 == g5 && f6 == g6)))) w := eqr _ _ _ _ _ _ _ _ _ _
  rcases ehl : (f2 == g2 && (f3 == g3 && f4 == g4) && (f5 == g5 && f6 == g6)) with _ | _
  · rw [ehl] at hl
    rw [show sameS ((f0, f1), (f2, f3, f4, f5, f6), (f7, f8, f9, fa, fb), fc, (fd, fe), l1) ((g0, g1), (g2, g3, g4, g5, g6), (g7, g8, g9, ga, gb), gc, (gd, ge), l2) = false from by simp [sameS, sameR, *]]
    go_enter Tryd.func9, Tryd.ntmps9
    go_wp2
    go_ret
    exact ⟨rfl, bel.out⟩
  rw [ehl] at hl
  have hr : ∀ w, (binOp .eql 29 (.agg #[.int .i64 f7, .int .i64 f8, .int .u64 f9, .int .i64 fa, .int .u64 fb]) (.agg #[.int .i64 g7, .int .i64 g8, .int .u64 g9, .int .i64 ga, .int .u64 gb])).run Tryd.prog w = .ok (.bool ((f7 == g7 && (f8 == g8 && f9 == g9) && (fa == ga && fb == gb)))) w := eqr _ _ _ _ _ _ _ _ _ _
  rcases ehr : (f7 == g7 && (f8 == g8 && f9 == g9) && (fa == ga && fb == gb)) with _ | _
  · rw [ehr] at hr
    rw [show sameS ((f0, f1), (f2, f3, f4, f5, f6), (f7, f8, f9, fa, fb), fc, (fd, fe), l1) ((g0, g1), (g2, g3, g4, g5, g6), (g7, g8, g9, ga, gb), gc, (gd, ge), l2) = false from by simp [sameS, sameR, *]]
    go_enter Tryd.func9, Tryd.ntmps9
    go_wp2
    go_ret
    exact ⟨rfl, bel.out⟩
  rw [ehr] at hr
  by_cases ehh : fc = gc
  rotate_left
  · skip
    rw [show sameS ((f0, f1), (f2, f3, f4, f5, f6), (f7, f8, f9, fa, fb), fc, (fd, fe), l1) ((g0, g1), (g2, g3, g4, g5, g6), (g7, g8, g9, ga, gb), gc, (gd, ge), l2) = false from by simp [sameS, sameR, *]]
    go_enter Tryd.func9, Tryd.ntmps9
    go_wp2
    go_ret
    exact ⟨rfl, bel.out⟩
  subst ehh
  have ho : ∀ w, (binOp .eql 31 (.agg #[.int .i64 fd, .int .i64 fe]) (.agg #[.int .i64 gd, .int .i64 ge])).run Tryd.prog w = .ok (.bool ((fd == gd && fe == ge))) w := owner_eq _ _ _ _
  rcases eho : (fd == gd && fe == ge) with _ | _
  · rw [eho] at ho
    rw [show sameS ((f0, f1), (f2, f3, f4, f5, f6), (f7, f8, f9, fa, fb), fc, (fd, fe), l1) ((g0, g1), (g2, g3, g4, g5, g6), (g7, g8, g9, ga, gb), fc, (gd, ge), l2) = false from by simp [sameS, sameR, *]]
    go_enter Tryd.func9, Tryd.ntmps9
    go_wp2
    go_ret
    exact ⟨rfl, bel.out⟩
  rw [eho] at ho
  have hres : sameS ((f0, f1), (f2, f3, f4, f5, f6), (f7, f8, f9, fa, fb), fc, (fd, fe), l1) ((g0, g1), (g2, g3, g4, g5, g6), (g7, g8, g9, ga, gb), fc, (gd, ge), l2) = decide (l1 = l2) := by simp [sameS, sameR, *]
  rw [hres]
  clear hres
  obtain ⟨B, hB⟩ : ∃ B, decide (l1 = l2) = B := ⟨_, rfl⟩
  rw [hB]
  replace hB := hide hB
  go_enter Tryd.func9, Tryd.ntmps9
  go_wp2_with fail
  refine (sequalR_any _ _ l1 l2 hl1 _ (S1.out.below bel.out) (S2.out.below bel.out)).mono ?_
  rintro e w1 ⟨rfl, hb1⟩
  have HB1 := hide (bel.out.trans (hb1.mono bel.out.size))
  clear hb1
  rw [hB.out]
  go_wp2
  go_ret
  exact ⟨rfl, HB1.out⟩

set_option maxHeartbeats 16000000 in
set_option maxRecDepth 100000 in
theorem rsameR_low (f0 f1 f2 f3 f4 f5 f6 f7 f8 f9 fa fb : Int) (fc : Bool) (fd fe : Int) (g0 g1 g2 g3 g4 g5 g6 g7 g8 g9 ga gb : Int) (gc : Bool) (gd ge : Int) (v1 v2 : Value) (l1 l2 : List Ow) (hl1 : l1.length ≤ 100000) (w : World) (h1 : SlR w v1 l1) (h2 : SlR w v2 l2) :
    Calls Tryd.prog 10 #[.agg #[.int .i64 f0, .int .u64 f1, .int .i64 f2, .int .i64 f3, .int .u64 f4, .int .i64 f5, .int .u64 f6, .int .i64 f7, .int .i64 f8, .int .u64 f9, .int .i64 fa, .int .u64 fb, .bool fc, .int .i64 fd, .int .i64 fe, v1], .agg #[.int .i64 g0, .int .u64 g1, .int .i64 g2, .int .i64 g3, .int .u64 g4, .int .i64 g5, .int .u64 g6, .int .i64 g7, .int .i64 g8, .int .u64 g9, .int .i64 ga, .int .u64 gb, .bool gc, .int .i64 gd, .int .i64 ge, v2]] w fun e w' => e = .returned (.bool (sameS ((f0, f1), (f2, f3, f4, f5, f6), (f7, f8, f9, fa, fb), fc, (fd, fe), l1) ((g0, g1), (g2, g3, g4, g5, g6), (g7, g8, g9, ga, gb), gc, (gd, ge), l2))) ∧ Below w.heap.size w w' := by
  obtain ⟨va, vc, rfl⟩ := h1.1
  obtain ⟨va2, vc2, rfl⟩ := h2.1
  have bel := hide (((Below.refl w.heap.size w).alloc (Nat.le_refl _) (.cells #[.int .i64 f0, .int .u64 f1, .int .i64 f2, .int .i64 f3, .int .u64 f4, .int .i64 f5, .int .u64 f6, .int .i64 f7, .int .i64 f8, .int .u64 f9, .int .i64 fa, .int .u64 fb, .bool fc, .int .i64 fd, .int .i64 fe, .slice va l1.length vc] 34)).alloc (by simp) (.cells #[.int .i64 g0, .int .u64 g1, .int .i64 g2, .int .i64 g3, .int .u64 g4, .int .i64 g5, .int .u64 g6, .int .i64 g7, .int .i64 g8, .int .u64 g9, .int .i64 ga, .int .u64 gb, .bool gc, .int .i64 gd, .int .i64 ge, .slice va2 l2.length vc2] 34))
  have S1 := hide h1
  have S2 := hide h2
  clear h1 h2
  have hw : ∀ w, (binOp .neq 24 (.agg #[.int .i64 f0, .int .u64 f1]) (.agg #[.int .i64 g0, .int .u64 g1])).run Tryd.prog w = .ok (.bool (!(f0 == g0 && f1 == g1))) w := nev _ _ _ _
  rcases ehw : (f0 == g0 && f1 == g1) with _ | _
  · rw [ehw] at hw
    rw [show sameS ((f0, f1), (f2, f3, f4, f5, f6), (f7, f8, f9, fa, fb), fc, (fd, fe), l1) ((g0, g1), (g2, g3, g4, g5, g6), (g7, g8, g9, ga, gb), gc, (gd, ge), l2) = false from by simp [sameS, sameR, *]]
    go_enter Tryd.func10, Tryd.ntmps10
    go_wp2
    go_ret
    exact ⟨rfl, bel.out⟩
  rw [ehw] at hw
  have hl : ∀ w, (binOp .neq 29 (.agg #[.int .i64 f2, .int .i64 f3, .int .u64 f4, .int .i64 f5, .int .u64 f6]) (.agg #[.int .i64 g2, .int .i64 g3, .int .u64 g4, .int .i64 g5, .int .u64 g6])).run Tryd.prog w = .ok (.bool (!(f2 == g2 && (f3 == g3 && f4 == g4) && (f5 == g5 && f6 == g6)))) w := ner _ _ _ _ _ _ _ _ _ _
  rcases ehl : (f2 == g2 && (f3 == g3 && f4 == g4) && (f5 == g5 && f6 == g6)) with _ | _
  · rw [ehl] at hl
    rw [show sameS ((f0, f1), (f2, f3, f4, f5, f6), (f7, f8, f9, fa, fb), fc, (fd, fe), l1) ((g0, g1), (g2, g3, g4, g5, g6), (g7, g8, g9, ga, gb), gc, (gd, ge), l2) = false from by simp [sameS, sameR, *]]
    go_enter Tryd.func10, Tryd.ntmps10
    go_wp2
    go_ret
    exact ⟨rfl, bel.out⟩
  rw [ehl] at hl
  have hr : ∀ w, (binOp .neq 29 (.agg #[.int .i64 f7, .int .i64 f8, .int .u64 f9, .int .i64 fa, .int .u64 fb]) (.agg #[.int .i64 g7, .int .i64 g8, .int .u64 g9, .int .i64 ga, .int .u64 gb])).run Tryd.prog w = .ok (.bool (!(f7 == g7 && (f8 == g8 && f9 == g9) && (fa == ga && fb == gb)))) w := ner _ _ _ _ _ _ _ _ _ _
  rcases ehr : (f7 == g7 && (f8 == g8 && f9 == g9) && (fa == ga && fb == gb)) with _ | _
  · rw [ehr] at hr
    rw [show sameS ((f0, f1), (f2, f3, f4, f5, f6), (f7, f8, f9, fa, fb), fc, (fd, fe), l1) ((g0, g1), (g2, g3, g4, g5, g6), (g7, g8, g9, ga, gb), gc, (gd, ge), l2) = false from by simp [sameS, sameR, *]]
    go_enter Tryd.func10, Tryd.ntmps10
    go_wp2
    go_ret
    exact ⟨rfl, bel.out⟩
  rw [ehr] at hr
  by_cases ehh : fc = gc
  rotate_left
  · skip
    rw [show sameS ((f0, f1), (f2, f3, f4, f5, f6), (f7, f8, f9, fa, fb), fc, (fd, fe), l1) ((g0, g1), (g2, g3, g4, g5, g6), (g7, g8, g9, ga, gb), gc, (gd, ge), l2) = false from by simp [sameS, sameR, *]]
    go_enter Tryd.func10, Tryd.ntmps10
    go_wp2
    go_ret
    exact ⟨rfl, bel.out⟩
  subst ehh
  have ho : ∀ w, (binOp .neq 31 (.agg #[.int .i64 fd, .int .i64 fe]) (.agg #[.int .i64 gd, .int .i64 ge])).run Tryd.prog w = .ok (.bool (!(fd == gd && fe == ge))) w := owner_ne _ _ _ _
  rcases eho : (fd == gd && fe == ge) with _ | _
  · rw [eho] at ho
    rw [show sameS ((f0, f1), (f2, f3, f4, f5, f6), (f7, f8, f9, fa, fb), fc, (fd, fe), l1) ((g0, g1), (g2, g3, g4, g5, g6), (g7, g8, g9, ga, gb), fc, (gd, ge), l2) = false from by simp [sameS, sameR, *]]
    go_enter Tryd.func10, Tryd.ntmps10
    go_wp2
    go_ret
    exact ⟨rfl, bel.out⟩
  rw [eho] at ho
  have hres : sameS ((f0, f1), (f2, f3, f4, f5, f6), (f7, f8, f9, fa, fb), fc, (fd, fe), l1) ((g0, g1), (g2, g3, g4, g5, g6), (g7, g8, g9, ga, gb), fc, (gd, ge), l2) = decide (l1 = l2) := by simp [sameS, sameR, *]
  rw [hres]
  clear hres
  obtain ⟨B, hB⟩ : ∃ B, decide (l1 = l2) = B := ⟨_, rfl⟩
  rw [hB]
  replace hB := hide hB
  go_enter Tryd.func10, Tryd.ntmps10
  go_wp2_with fail
  refine (rownersR_any _ _ l1 l2 hl1 _ (S1.out.below bel.out) (S2.out.below bel.out)).mono ?_
  rintro e w1 ⟨rfl, hb1⟩
  have HB1 := hide (bel.out.trans (hb1.mono bel.out.size))
  clear hb1
  rw [hB.out]
  go_wp2
  go_ret
  exact ⟨rfl, HB1.out⟩

end Go.Proofs.YtledkljffjomdaaDoor
