/- The law's own comparison of two rows of numbers; the document's Swap. -/
import Derived.Test.YtoinjmddmahpkaaZE
namespace Go.Proofs.Ytoinjmddmahpkaa
open Go.RowKit Go.Maps

set_option maxHeartbeats 4000000 in
set_option maxRecDepth 100000 in
theorem lsame_any (u1 u2 : Value) (xs : List Nat) (hx : xs.length ≤ 4096) (w : World) (h1 : Rw w 3 1 u1 xs.length (xs.map fun (i : Nat) => Value.int .i64 (i : Int))) (h2 : Rw w 3 1 u2 xs.length (xs.map fun (i : Nat) => Value.int .i64 (i : Int))) :
    Calls Try.prog 32 #[u1, u2] w fun e w' => e = .returned (.bool true) ∧ Below w.heap.size w w' := by
  have mixed : Try.prog.follows .mixedOrders = true := by kernel_rfl
  obtain ⟨a1, c1, rfl, -, -⟩ := h1.shape
  obtain ⟨a2, c2, rfl, -, -⟩ := h2.shape
  replace h1 := hide h1
  replace h2 := hide h2
  generalize hn : xs.length = n at *
  replace hn := hide hn
  go_enter Try.func32, Try.ntmps32
  go_wp2
  go_loopw [5] (fun i wr => ∃ t : Nat, t ≤ n ∧ i = .int .i64 (t : Int) ∧ Hid (Below w.heap.size w wr)) (fun i _ => n - (intOf i).toNat)
  case atStart => exact ⟨0, by omega, rfl, Below.refl _ _⟩
  case round =>
    obtain ⟨t, ht, rfl, HB⟩ := hrel
    by_cases htn : t < n
    · obtain ⟨g1, k1, e1, -, -, -⟩ := h1.out.form (by omega)
      obtain ⟨g2, k2, e2, -, -, -⟩ := h2.out.form (by omega)
      injection e1 with e1 _ e1c
      injection e2 with e2 _ e2c
      subst e1 e1c e2 e2c
      have hg : (xs.map fun (i : Nat) => Value.int .i64 (i : Int))[t]? = some (.int .i64 ((xs[t]'(by rw [hn.out]; exact htn) : Nat) : Int)) := by
        rw [List.getElem?_map, List.getElem?_eq_getElem (by rw [hn.out]; exact htn)]; rfl
      generalize ((xs[t]'(by rw [hn.out]; exact htn) : Nat) : Int) = y at hg
      have hy1 : wr.cell? ⟨g1, t, none⟩ = some (.int .i64 y) := ((h1.out.below HB.out).cellAt t (by omega)).trans hg
      have hy2 : wr.cell? ⟨g2, t, none⟩ = some (.int .i64 y) := ((h2.out.below HB.out).cellAt t (by omega)).trans hg
      clear hg
      go_wp2
      refine regionL 9 (fun w' => w'.cell? ⟨g1, t, none⟩ = some (.int .i64 y) ∧ w'.cell? ⟨g2, t, none⟩ = some (.int .i64 y)) mixed ⟨hy1, hy2⟩ (fun hHeld => ?_)
      refine pickA (v := ?_) 0 (some 17) rfl rfl (by kernel_rfl) (by kernel_rfl) (by kernel_rfl) (by decide) (fun _ _ _ h => h) (by rfl) ?_ (by assumption) ?_
      rotate_left
      · intro w'
        go_simp
        try with_reducible rfl
      try simp only [Act.put, List.setIfInBounds_toArray, List.set_cons_zero, List.set_cons_succ]
      refine pickA (v := ?_) 1 (some 18) rfl rfl (by kernel_rfl) (by kernel_rfl) (by kernel_rfl) (by decide) (fun _ _ _ h => h) (by rfl) ?_ (by assumption) ?_
      rotate_left
      · intro w'
        go_simp
        try with_reducible rfl
      try simp only [Act.put, List.setIfInBounds_toArray, List.set_cons_zero, List.set_cons_succ]
      refine pickA (v := ?_) 2 (some 19) rfl rfl (by kernel_rfl) (by kernel_rfl) (by kernel_rfl) (by decide) (fun _ _ _ h => h) (by rfl) ?_ (by assumption) ?_
      rotate_left
      · intro w'
        go_simp
        try with_reducible rfl
      try simp only [Act.put, List.setIfInBounds_toArray, List.set_cons_zero, List.set_cons_succ]
      refine pickL (v := ?_) 3 (some 20) rfl rfl (by kernel_rfl) (by kernel_rfl) (by kernel_rfl) (by decide) (by kernel_rfl) (by kernel_rfl) (fun _ _ _ h => h) (by rfl) ?_ (by assumption) ?_
      rotate_left
      · intro w' hSw
        obtain ⟨e0, e1⟩ := hSw
        go_simp
        try with_reducible rfl
      try simp only [Act.put, List.setIfInBounds_toArray, List.set_cons_zero, List.set_cons_succ]
      refine pickA (v := ?_) 4 (some 21) rfl rfl (by kernel_rfl) (by kernel_rfl) (by kernel_rfl) (by decide) (fun _ _ _ h => h) (by rfl) ?_ (by assumption) ?_
      rotate_left
      · intro w'
        go_simp
        try with_reducible rfl
      try simp only [Act.put, List.setIfInBounds_toArray, List.set_cons_zero, List.set_cons_succ]
      refine pickA (v := ?_) 5 (some 22) rfl rfl (by kernel_rfl) (by kernel_rfl) (by kernel_rfl) (by decide) (fun _ _ _ h => h) (by rfl) ?_ (by assumption) ?_
      rotate_left
      · intro w'
        go_simp
        try with_reducible rfl
      try simp only [Act.put, List.setIfInBounds_toArray, List.set_cons_zero, List.set_cons_succ]
      refine pickA (v := ?_) 6 (some 23) rfl rfl (by kernel_rfl) (by kernel_rfl) (by kernel_rfl) (by decide) (fun _ _ _ h => h) (by rfl) ?_ (by assumption) ?_
      rotate_left
      · intro w'
        go_simp
        try with_reducible rfl
      try simp only [Act.put, List.setIfInBounds_toArray, List.set_cons_zero, List.set_cons_succ]
      refine pickL (v := ?_) 7 (some 24) rfl rfl (by kernel_rfl) (by kernel_rfl) (by kernel_rfl) (by decide) (by kernel_rfl) (by kernel_rfl) (fun _ _ _ h => h) (by rfl) ?_ (by assumption) ?_
      rotate_left
      · intro w' hSw
        obtain ⟨e0, e1⟩ := hSw
        go_simp
        try with_reducible rfl
      try simp only [Act.put, List.setIfInBounds_toArray, List.set_cons_zero, List.set_cons_succ]
      refine pickA (v := ?_) 8 (some 25) rfl rfl (by kernel_rfl) (by kernel_rfl) (by kernel_rfl) (by decide) (fun _ _ _ h => h) (by rfl) ?_ (by assumption) ?_
      rotate_left
      · intro w'
        go_simp
        try with_reducible rfl
      try simp only [Act.put, List.setIfInBounds_toArray, List.set_cons_zero, List.set_cons_succ]
      refine doneL (by kernel_rfl) ?_ _
      clear hHeld
      go_wp2
      exact ⟨⟨t + 1, by omega, by simp, HB.out.trans (((Below.refl _ wr).drew).mono HB.out.size)⟩, by simp [intOf]; omega⟩
    · go_wp2
      go_ret
      exact ⟨rfl, HB.out⟩

set_option maxHeartbeats 4000000 in
set_option maxRecDepth 100000 in
theorem rswap_bad (b : Nat) (v : Value) (ps : List Pc) (c : Cnt) (k : Nat) (w : World) (h : RS w b v ps c k) (i j : Int) (hi : (inR ps.length i && inR ps.length j) = false) :
    Calls Try.prog 29 #[.pointer (some ⟨b, 0, none⟩), .int .i64 i, .int .i64 j] w fun e w' => e = .returned (.int .i64 5) ∧ w' = w := by
  replace h := hide h
  by_cases h1 : inR ps.length i = true
  · have h2 : inR ps.length j = false := by rw [h1] at hi; simpa using hi
    clear hi
    go_enter Try.func29, Try.ntmps29
    go_wp2_with fail
    refine (ris_any b v ps c k _ _ h.out).mono ?_
    rintro e w1 ⟨rfl, rfl⟩
    rw [h1]
    go_wp2_with fail
    refine (ris_any b v ps c k _ _ h.out).mono ?_
    rintro e w2 ⟨rfl, rfl⟩
    rw [h2]
    go_wp2
    go_ret
    exact ⟨rfl, rfl⟩
  · have h1' : inR ps.length i = false := by simpa using h1
    clear hi
    go_enter Try.func29, Try.ntmps29
    go_wp2_with fail
    refine (ris_any b v ps c k _ _ h.out).mono ?_
    rintro e w1 ⟨rfl, rfl⟩
    rw [h1']
    go_wp2
    go_ret
    exact ⟨rfl, rfl⟩

end Go.Proofs.Ytoinjmddmahpkaa
