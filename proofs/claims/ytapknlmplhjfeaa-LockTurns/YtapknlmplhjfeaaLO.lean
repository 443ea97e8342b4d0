/- The document's lock: Free. -/
import Derived.Test.YtapknlmplhjfeaaLM
namespace Go.Proofs.Ytapknlmplhjfeaa
open Go.RowKit Go.Maps

theorem Rw.tailSl {w : World} {g cap : Nat} {os : List Ow} (h : Rw w 27 2 (.slice (some ⟨g, 0, none⟩) os.length cap) os.length (ows os)) (q : Nat) (hq : q ≤ os.length) :
    Sl w (.slice (if cap = q then some ⟨g, 0, none⟩ else some ⟨g, q * 2, none⟩) (os.length - q) (cap - q)) (os.drop q) := by
  rcases h.2 with ⟨h1, -⟩ | ⟨g', cap', cur, h1, hg, hnc, hcm, -⟩
  · cases h1
  · injection h1 with h1 _ h2
    injection h1 with h1
    injection h1 with h1
    subst h1 h2
    have hlen : (os.drop q).length = os.length - q := by simp
    refine Or.inr ⟨g, if cap = q then 0 else q * 2, cap - q, ?_, by omega, by omega, lt_of_heap hg, ?_⟩
    · rw [hlen]; split <;> rfl
    · intro j u hu
      have hj : j < (os.length - q) * 2 := by have := (List.getElem?_eq_some_iff.1 hu).1; rw [ows_len, hlen] at this; exact this
      rw [if_neg (by omega), h.cellAt (q * 2 + j) (by omega), ← List.getElem?_drop, ows_drop]
      exact hu

set_option maxHeartbeats 4000000 in
set_option maxRecDepth 100000 in
theorem rfree_bad (b : Nat) (w : World) (a o : Int) (hok : okO a o = false) : Calls Try.prog 24 #[.pointer (some ⟨b, 0, none⟩), .agg #[.int .i64 a, .int .i64 o]] w fun e w' => e = .returned (.tuple #[.agg #[.int .i64 0, .int .i64 0], .bool false, .int .i64 70]) ∧ Below w.heap.size w w' := by
  have J := (IsB.new (w.alloc (.cells #[.int .i64 a, .int .i64 o] 27)) #[.int .i64 0, .int .i64 0] 27)
  have HB0 := ((Below.refl w.heap.size w).alloc (Nat.le_refl _) (.cells #[.int .i64 a, .int .i64 o] 27)).alloc (by simp) (.cells #[.int .i64 0, .int .i64 0] 27)
  rw [World.size_alloc] at J
  replace hok := hide hok
  go_enter Try.func24, Try.ntmps24
  go_wp2_with fail
  refine (isOwner_any a o _).mono ?_; rintro e w1 ⟨rfl, hb⟩
  rw [hok.out]
  have J1 := J.below hb
  have HB := hide (HB0.trans (hb.mono HB0.size))
  have a0 := J1.cell 0
  have a1 := J1.cell 1
  have f0 := J1.free 0
  have f1 := J1.free 1
  simp at a0 a1
  have J2 := hide J1
  have hlt : w.heap.size + 1 < w1.heap.size := J1.lt
  clear J1 J hb HB0
  go_wp2
  refine ret_o2 (p := 4) (u := 5) (t := 6) (b := w.heap.size + 1) Try.results24 rfl rfl rfl (put2_is J2.out (.int .i64 0) (.int .i64 0)) ?_
  exact ⟨rfl, (Kp.trans (Kp.of_below (S := []) HB.out) (put2_kp w1 (w.heap.size + 1) _ _) (by simp)).to_below (Nat.le_refl _) (by simp)⟩

set_option maxHeartbeats 4000000 in
set_option maxRecDepth 100000 in
theorem rfree_none (b : Nat) (v : Value)  (w : World) (a o : Int) (h : RS w b v []) (hok : okO a o = true)  : Calls Try.prog 24 #[.pointer (some ⟨b, 0, none⟩), .agg #[.int .i64 a, .int .i64 o]] w fun e w' => e = .returned (.tuple #[.agg #[.int .i64 0, .int .i64 0], .bool false, .int .i64 71]) ∧ Below w.heap.size w w' := by
  have mixed : Try.prog.follows .mixedOrders = true := by kernel_rfl
  have bel0 : Below w.heap.size w ((w.alloc (.cells #[.int .i64 a, .int .i64 o] 27)).alloc (.cells #[.int .i64 0, .int .i64 0] 27)) := ((Below.refl w.heap.size w).alloc (Nat.le_refl _) (.cells #[.int .i64 a, .int .i64 o] 27)).alloc (by simp) (.cells #[.int .i64 0, .int .i64 0] 27)
  have L1 := hide (h.below bel0)
  have J1 := hide ((IsB.new w #[.int .i64 a, .int .i64 o] 27).below ((Below.refl _ _).alloc (Nat.le_refl _) (.cells #[.int .i64 0, .int .i64 0] 27)))
  have F1 := IsB.new (w.alloc (.cells #[.int .i64 a, .int .i64 o] 27)) #[.int .i64 0, .int .i64 0] 27
  rw [World.size_alloc] at F1
  replace F1 := hide F1
  have B1 := hide bel0
  have hlen := h.len
  obtain ⟨va, vc, rfl⟩ := h.nat
  replace hok := hide hok
  have h0 := hide h
  clear bel0 h
  simp only [List.tail_nil, List.length_nil] at *
  go_enter Try.func24, Try.ntmps24
  go_wp2_with fail
  refine (isOwner_any a o _).mono ?_; rintro e w2 ⟨rfl, hb⟩
  rw [hok.out]
  have L2 := hide (L1.out.below hb)
  have J2 := hide (J1.out.below hb)
  have F2 := hide (F1.out.below hb)
  have B2 := hide (B1.out.trans (hb.mono B1.out.size))
  clear hb L1 J1 B1 F1
  generalize hH : w.heap.size = H at J2 F2 ⊢
  replace hH := hide hH
  have hC := hide L2.out.nil
  have c0 := hC.out.cell 0
  have c1 := hC.out.cell 1
  have c2 := hC.out.cell 2
  have c3 := hC.out.cell 3
  have j0 := J2.out.cell 0
  have j1 := J2.out.cell 1
  simp at c0 c1 c2 c3 j0 j1
  go_wp2
  refine regionL 13 (fun w' => w'.cell? ⟨b, 0, none⟩ = some (.bool false) ∧ w'.cell? ⟨b, 1, none⟩ = some (.int .i64 0) ∧ w'.cell? ⟨b, 2, none⟩ = some (.int .i64 0) ∧ w'.cell? ⟨H, 0, none⟩ = some (.int .i64 a) ∧ w'.cell? ⟨H, 1, none⟩ = some (.int .i64 o)) mixed ⟨c0, c1, c2, j0, j1⟩ (fun hHeld => ?_)
  refine pickA (v := ?_) 0 (some 11) rfl rfl (by kernel_rfl) (by kernel_rfl) (by kernel_rfl) (by decide) (fun _ _ _ h => h) (by rfl) ?_ (by assumption) ?_
  rotate_left
  · intro w'
    go_simp
    try with_reducible rfl
  try simp only [Act.put, List.setIfInBounds_toArray, List.set_cons_zero, List.set_cons_succ]
  refine pickA (v := ?_) 1 (some 12) rfl rfl (by kernel_rfl) (by kernel_rfl) (by kernel_rfl) (by decide) (fun _ _ _ h => h) (by rfl) ?_ (by assumption) ?_
  rotate_left
  · intro w'
    go_simp
    try with_reducible rfl
  try simp only [Act.put, List.setIfInBounds_toArray, List.set_cons_zero, List.set_cons_succ]
  refine pickA (v := ?_) 2 (some 13) rfl rfl (by kernel_rfl) (by kernel_rfl) (by kernel_rfl) (by decide) (fun _ _ _ h => h) (by rfl) ?_ (by assumption) ?_
  rotate_left
  · intro w'
    go_simp
    try with_reducible rfl
  try simp only [Act.put, List.setIfInBounds_toArray, List.set_cons_zero, List.set_cons_succ]
  refine pickL (v := ?_) 3 (some 14) rfl rfl (by kernel_rfl) (by kernel_rfl) (by kernel_rfl) (by decide) (by kernel_rfl) (by kernel_rfl) (fun _ _ _ h => h) (by rfl) ?_ (by assumption) ?_
  rotate_left
  · intro w' hSw
    obtain ⟨q0, q1, q2, q3, q4⟩ := hSw
    go_simp
    try with_reducible rfl
  try simp only [Act.put, List.setIfInBounds_toArray, List.set_cons_zero, List.set_cons_succ]
  refine pickA (v := ?_) 4 (some 15) rfl rfl (by kernel_rfl) (by kernel_rfl) (by kernel_rfl) (by decide) (fun _ _ _ h => h) (by rfl) ?_ (by assumption) ?_
  rotate_left
  · intro w'
    go_simp
    try with_reducible rfl
  try simp only [Act.put, List.setIfInBounds_toArray, List.set_cons_zero, List.set_cons_succ]
  refine pickA (v := ?_) 5 (some 16) rfl rfl (by kernel_rfl) (by kernel_rfl) (by kernel_rfl) (by decide) (fun _ _ _ h => h) (by rfl) ?_ (by assumption) ?_
  rotate_left
  · intro w'
    go_simp
    try with_reducible rfl
  try simp only [Act.put, List.setIfInBounds_toArray, List.set_cons_zero, List.set_cons_succ]
  refine pickN 6 (some 17) rfl rfl (by kernel_rfl) (by kernel_rfl) (by kernel_rfl) (by decide) (fun _ _ _ h => h) (by rfl) (by assumption) ?_
  try simp only [Act.put, List.setIfInBounds_toArray, List.set_cons_zero, List.set_cons_succ]
  refine pickN 7 (some 18) rfl rfl (by kernel_rfl) (by kernel_rfl) (by kernel_rfl) (by decide) (fun _ _ _ h => h) (by rfl) (by assumption) ?_
  try simp only [Act.put, List.setIfInBounds_toArray, List.set_cons_zero, List.set_cons_succ]
  refine pickN 8 (some 19) rfl rfl (by kernel_rfl) (by kernel_rfl) (by kernel_rfl) (by decide) (fun _ _ _ h => h) (by rfl) (by assumption) ?_
  try simp only [Act.put, List.setIfInBounds_toArray, List.set_cons_zero, List.set_cons_succ]
  refine pickN 9 (some 20) rfl rfl (by kernel_rfl) (by kernel_rfl) (by kernel_rfl) (by decide) (fun _ _ _ h => h) (by rfl) (by assumption) ?_
  try simp only [Act.put, List.setIfInBounds_toArray, List.set_cons_zero, List.set_cons_succ]
  refine pickN 10 (some 21) rfl rfl (by kernel_rfl) (by kernel_rfl) (by kernel_rfl) (by decide) (fun _ _ _ h => h) (by rfl) (by assumption) ?_
  try simp only [Act.put, List.setIfInBounds_toArray, List.set_cons_zero, List.set_cons_succ]
  refine pickN 11 (some 22) rfl rfl (by kernel_rfl) (by kernel_rfl) (by kernel_rfl) (by decide) (fun _ _ _ h => h) (by rfl) (by assumption) ?_
  try simp only [Act.put, List.setIfInBounds_toArray, List.set_cons_zero, List.set_cons_succ]
  refine pickA (v := ?_) 12 (some 23) rfl rfl (by kernel_rfl) (by kernel_rfl) (by kernel_rfl) (by decide) (fun _ _ _ h => h) (by rfl) ?_ (by assumption) ?_
  rotate_left
  · intro w'
    go_simp
    try with_reducible rfl
  try simp only [Act.put, List.setIfInBounds_toArray, List.set_cons_zero, List.set_cons_succ]
  refine doneL (by kernel_rfl) ?_ _
  clear hHeld
  have LD := hide (L2.out.below ((Below.refl w2.heap.size w2).drew))
  have FD := hide (F2.out.below ((Below.refl w2.heap.size w2).drew))
  have BD := hide (B2.out.drew)
  clear L2 J2 F2 B2 hC c0 c1 c2 c3 j0 j1
  generalize w2.drew = w3 at *
  have a0 := FD.out.cell 0
  have a1 := FD.out.cell 1
  have f0 := FD.out.free 0
  have f1 := FD.out.free 1
  have hlt : H + 1 < w3.heap.size := FD.out.lt
  simp at a0 a1
  go_wp2
  refine ret_o2 (p := 4) (u := 5) (t := 6) (b := H + 1) Try.results24 rfl rfl rfl (put2_is FD.out (.int .i64 0) (.int .i64 0)) ?_
  exact ⟨rfl, (Kp.trans (Kp.of_below (S := []) BD.out) (put2_kp w3 (H + 1) _ _) (by have := hH.out; simp; omega)).to_below (Nat.le_refl _) (by have := hH.out; simp; try omega)⟩

set_option maxHeartbeats 4000000 in
set_option maxRecDepth 100000 in
theorem rfree_other (b : Nat) (v : Value) (x y : Int) (tl : List Ow) (w : World) (a o : Int) (h : RS w b v ((x, y) :: tl)) (hok : okO a o = true) (hxy : x = a → ¬y = o) : Calls Try.prog 24 #[.pointer (some ⟨b, 0, none⟩), .agg #[.int .i64 a, .int .i64 o]] w fun e w' => e = .returned (.tuple #[.agg #[.int .i64 0, .int .i64 0], .bool false, .int .i64 71]) ∧ Below w.heap.size w w' := by
  replace hxy := hide hxy
  have mixed : Try.prog.follows .mixedOrders = true := by kernel_rfl
  have bel0 : Below w.heap.size w ((w.alloc (.cells #[.int .i64 a, .int .i64 o] 27)).alloc (.cells #[.int .i64 0, .int .i64 0] 27)) := ((Below.refl w.heap.size w).alloc (Nat.le_refl _) (.cells #[.int .i64 a, .int .i64 o] 27)).alloc (by simp) (.cells #[.int .i64 0, .int .i64 0] 27)
  have L1 := hide (h.below bel0)
  have J1 := hide ((IsB.new w #[.int .i64 a, .int .i64 o] 27).below ((Below.refl _ _).alloc (Nat.le_refl _) (.cells #[.int .i64 0, .int .i64 0] 27)))
  have F1 := IsB.new (w.alloc (.cells #[.int .i64 a, .int .i64 o] 27)) #[.int .i64 0, .int .i64 0] 27
  rw [World.size_alloc] at F1
  replace F1 := hide F1
  have B1 := hide bel0
  have hlen := h.len
  obtain ⟨va, vc, rfl⟩ := h.nat
  replace hok := hide hok
  have h0 := hide h
  clear bel0 h
  simp only [List.tail_cons, List.length_cons] at *
  generalize hn : tl.length = n at *
  replace hn := hide hn
  go_enter Try.func24, Try.ntmps24
  go_wp2_with fail
  refine (isOwner_any a o _).mono ?_; rintro e w2 ⟨rfl, hb⟩
  rw [hok.out]
  have L2 := hide (L1.out.below hb)
  have J2 := hide (J1.out.below hb)
  have F2 := hide (F1.out.below hb)
  have B2 := hide (B1.out.trans (hb.mono B1.out.size))
  clear hb L1 J1 B1 F1
  generalize hH : w.heap.size = H at J2 F2 ⊢
  replace hH := hide hH
  have hC := hide L2.out.cons
  have c0 := hC.out.cell 0
  have c1 := hC.out.cell 1
  have c2 := hC.out.cell 2
  have c3 := hC.out.cell 3
  have j0 := J2.out.cell 0
  have j1 := J2.out.cell 1
  simp at c0 c1 c2 c3 j0 j1
  go_wp2
  refine regionL 13 (fun w' => w'.cell? ⟨b, 0, none⟩ = some (.bool true) ∧ w'.cell? ⟨b, 1, none⟩ = some (.int .i64 x) ∧ w'.cell? ⟨b, 2, none⟩ = some (.int .i64 y) ∧ w'.cell? ⟨H, 0, none⟩ = some (.int .i64 a) ∧ w'.cell? ⟨H, 1, none⟩ = some (.int .i64 o)) mixed ⟨c0, c1, c2, j0, j1⟩ (fun hHeld => ?_)
  refine pickA (v := ?_) 0 (some 11) rfl rfl (by kernel_rfl) (by kernel_rfl) (by kernel_rfl) (by decide) (fun _ _ _ h => h) (by rfl) ?_ (by assumption) ?_
  rotate_left
  · intro w'
    go_simp
    try with_reducible rfl
  try simp only [Act.put, List.setIfInBounds_toArray, List.set_cons_zero, List.set_cons_succ]
  refine pickA (v := ?_) 1 (some 12) rfl rfl (by kernel_rfl) (by kernel_rfl) (by kernel_rfl) (by decide) (fun _ _ _ h => h) (by rfl) ?_ (by assumption) ?_
  rotate_left
  · intro w'
    go_simp
    try with_reducible rfl
  try simp only [Act.put, List.setIfInBounds_toArray, List.set_cons_zero, List.set_cons_succ]
  refine pickA (v := ?_) 2 (some 13) rfl rfl (by kernel_rfl) (by kernel_rfl) (by kernel_rfl) (by decide) (fun _ _ _ h => h) (by rfl) ?_ (by assumption) ?_
  rotate_left
  · intro w'
    go_simp
    try with_reducible rfl
  try simp only [Act.put, List.setIfInBounds_toArray, List.set_cons_zero, List.set_cons_succ]
  refine pickL (v := ?_) 3 (some 14) rfl rfl (by kernel_rfl) (by kernel_rfl) (by kernel_rfl) (by decide) (by kernel_rfl) (by kernel_rfl) (fun _ _ _ h => h) (by rfl) ?_ (by assumption) ?_
  rotate_left
  · intro w' hSw
    obtain ⟨q0, q1, q2, q3, q4⟩ := hSw
    go_simp
    try with_reducible rfl
  try simp only [Act.put, List.setIfInBounds_toArray, List.set_cons_zero, List.set_cons_succ]
  refine pickA (v := ?_) 4 (some 15) rfl rfl (by kernel_rfl) (by kernel_rfl) (by kernel_rfl) (by decide) (fun _ _ _ h => h) (by rfl) ?_ (by assumption) ?_
  rotate_left
  · intro w'
    go_simp
    try with_reducible rfl
  try simp only [Act.put, List.setIfInBounds_toArray, List.set_cons_zero, List.set_cons_succ]
  refine pickA (v := ?_) 5 (some 16) rfl rfl (by kernel_rfl) (by kernel_rfl) (by kernel_rfl) (by decide) (fun _ _ _ h => h) (by rfl) ?_ (by assumption) ?_
  rotate_left
  · intro w'
    go_simp
    try with_reducible rfl
  try simp only [Act.put, List.setIfInBounds_toArray, List.set_cons_zero, List.set_cons_succ]
  refine pickA (v := ?_) 6 (some 17) rfl rfl (by kernel_rfl) (by kernel_rfl) (by kernel_rfl) (by decide) (fun _ _ _ h => h) (by rfl) ?_ (by assumption) ?_
  rotate_left
  · intro w'
    go_simp
    try with_reducible rfl
  try simp only [Act.put, List.setIfInBounds_toArray, List.set_cons_zero, List.set_cons_succ]
  refine pickA (v := ?_) 7 (some 18) rfl rfl (by kernel_rfl) (by kernel_rfl) (by kernel_rfl) (by decide) (fun _ _ _ h => h) (by rfl) ?_ (by assumption) ?_
  rotate_left
  · intro w'
    go_simp
    try with_reducible rfl
  try simp only [Act.put, List.setIfInBounds_toArray, List.set_cons_zero, List.set_cons_succ]
  refine pickA (v := ?_) 8 (some 19) rfl rfl (by kernel_rfl) (by kernel_rfl) (by kernel_rfl) (by decide) (fun _ _ _ h => h) (by rfl) ?_ (by assumption) ?_
  rotate_left
  · intro w'
    go_simp
    try with_reducible rfl
  try simp only [Act.put, List.setIfInBounds_toArray, List.set_cons_zero, List.set_cons_succ]
  refine pickL (v := ?_) 9 (some 20) rfl rfl (by kernel_rfl) (by kernel_rfl) (by kernel_rfl) (by decide) (by kernel_rfl) (by kernel_rfl) (fun _ _ _ h => h) (by rfl) ?_ (by assumption) ?_
  rotate_left
  · intro w' hSw
    obtain ⟨q0, q1, q2, q3, q4⟩ := hSw
    go_simp
    try with_reducible rfl
  try simp only [Act.put, List.setIfInBounds_toArray, List.set_cons_zero, List.set_cons_succ]
  refine pickL (v := ?_) 10 (some 21) rfl rfl (by kernel_rfl) (by kernel_rfl) (by kernel_rfl) (by decide) (by kernel_rfl) (by kernel_rfl) (fun _ _ _ h => h) (by rfl) ?_ (by assumption) ?_
  rotate_left
  · intro w' hSw
    obtain ⟨q0, q1, q2, q3, q4⟩ := hSw
    go_simp
    try with_reducible rfl
  try simp only [Act.put, List.setIfInBounds_toArray, List.set_cons_zero, List.set_cons_succ]
  refine pickA (v := .bool true) 11 (some 22) rfl rfl (by kernel_rfl) (by kernel_rfl) (by kernel_rfl) (by decide) (fun _ _ _ h => h) (by rfl) ?_ (by assumption) ?_
  · intro w'
    go_simp
    exact hxy.out
  try simp only [Act.put, List.setIfInBounds_toArray, List.set_cons_zero, List.set_cons_succ]
  refine pickA (v := ?_) 12 (some 23) rfl rfl (by kernel_rfl) (by kernel_rfl) (by kernel_rfl) (by decide) (fun _ _ _ h => h) (by rfl) ?_ (by assumption) ?_
  rotate_left
  · intro w'
    go_simp
    try with_reducible rfl
  try simp only [Act.put, List.setIfInBounds_toArray, List.set_cons_zero, List.set_cons_succ]
  refine doneL (by kernel_rfl) ?_ _
  clear hHeld
  have LD := hide (L2.out.below ((Below.refl w2.heap.size w2).drew))
  have FD := hide (F2.out.below ((Below.refl w2.heap.size w2).drew))
  have BD := hide (B2.out.drew)
  clear L2 J2 F2 B2 hC c0 c1 c2 c3 j0 j1
  generalize w2.drew = w3 at *
  have a0 := FD.out.cell 0
  have a1 := FD.out.cell 1
  have f0 := FD.out.free 0
  have f1 := FD.out.free 1
  have hlt : H + 1 < w3.heap.size := FD.out.lt
  simp at a0 a1
  go_wp2
  refine ret_o2 (p := 4) (u := 5) (t := 6) (b := H + 1) Try.results24 rfl rfl rfl (put2_is FD.out (.int .i64 0) (.int .i64 0)) ?_
  exact ⟨rfl, (Kp.trans (Kp.of_below (S := []) BD.out) (put2_kp w3 (H + 1) _ _) (by have := hH.out; simp; omega)).to_below (Nat.le_refl _) (by have := hH.out; simp; try omega)⟩

set_option maxHeartbeats 4000000 in
set_option maxRecDepth 100000 in
theorem rfree_last (b : Nat) (v : Value) (x y : Int) (w : World) (a o : Int) (h : RS w b v [(x, y)]) (hok : okO a o = true) (hxy : x = a ∧ y = o) : Calls Try.prog 24 #[.pointer (some ⟨b, 0, none⟩), .agg #[.int .i64 a, .int .i64 o]] w fun e w' => e = .returned (.tuple #[.agg #[.int .i64 0, .int .i64 0], .bool false, .int .i64 0]) ∧ ∃ v', Rx w w' b v v' [] := by
  replace hxy := hide hxy
  have mixed : Try.prog.follows .mixedOrders = true := by kernel_rfl
  have bel0 : Below w.heap.size w ((w.alloc (.cells #[.int .i64 a, .int .i64 o] 27)).alloc (.cells #[.int .i64 0, .int .i64 0] 27)) := ((Below.refl w.heap.size w).alloc (Nat.le_refl _) (.cells #[.int .i64 a, .int .i64 o] 27)).alloc (by simp) (.cells #[.int .i64 0, .int .i64 0] 27)
  have L1 := hide (h.below bel0)
  have J1 := hide ((IsB.new w #[.int .i64 a, .int .i64 o] 27).below ((Below.refl _ _).alloc (Nat.le_refl _) (.cells #[.int .i64 0, .int .i64 0] 27)))
  have F1 := IsB.new (w.alloc (.cells #[.int .i64 a, .int .i64 o] 27)) #[.int .i64 0, .int .i64 0] 27
  rw [World.size_alloc] at F1
  replace F1 := hide F1
  have B1 := hide bel0
  have hlen := h.len
  obtain ⟨va, vc, rfl⟩ := h.nat
  replace hok := hide hok
  have h0 := hide h
  clear bel0 h
  simp only [List.tail_cons, List.length_cons] at *
  simp only [List.length_nil] at *
  go_enter Try.func24, Try.ntmps24
  go_wp2_with fail
  refine (isOwner_any a o _).mono ?_; rintro e w2 ⟨rfl, hb⟩
  rw [hok.out]
  have L2 := hide (L1.out.below hb)
  have J2 := hide (J1.out.below hb)
  have F2 := hide (F1.out.below hb)
  have B2 := hide (B1.out.trans (hb.mono B1.out.size))
  clear hb L1 J1 B1 F1
  generalize hH : w.heap.size = H at J2 F2 ⊢
  replace hH := hide hH
  have hC := hide L2.out.cons
  have c0 := hC.out.cell 0
  have c1 := hC.out.cell 1
  have c2 := hC.out.cell 2
  have c3 := hC.out.cell 3
  have j0 := J2.out.cell 0
  have j1 := J2.out.cell 1
  simp at c0 c1 c2 c3 j0 j1
  go_wp2
  refine regionL 13 (fun w' => w'.cell? ⟨b, 0, none⟩ = some (.bool true) ∧ w'.cell? ⟨b, 1, none⟩ = some (.int .i64 x) ∧ w'.cell? ⟨b, 2, none⟩ = some (.int .i64 y) ∧ w'.cell? ⟨H, 0, none⟩ = some (.int .i64 a) ∧ w'.cell? ⟨H, 1, none⟩ = some (.int .i64 o)) mixed ⟨c0, c1, c2, j0, j1⟩ (fun hHeld => ?_)
  refine pickA (v := ?_) 0 (some 11) rfl rfl (by kernel_rfl) (by kernel_rfl) (by kernel_rfl) (by decide) (fun _ _ _ h => h) (by rfl) ?_ (by assumption) ?_
  rotate_left
  · intro w'
    go_simp
    try with_reducible rfl
  try simp only [Act.put, List.setIfInBounds_toArray, List.set_cons_zero, List.set_cons_succ]
  refine pickA (v := ?_) 1 (some 12) rfl rfl (by kernel_rfl) (by kernel_rfl) (by kernel_rfl) (by decide) (fun _ _ _ h => h) (by rfl) ?_ (by assumption) ?_
  rotate_left
  · intro w'
    go_simp
    try with_reducible rfl
  try simp only [Act.put, List.setIfInBounds_toArray, List.set_cons_zero, List.set_cons_succ]
  refine pickA (v := ?_) 2 (some 13) rfl rfl (by kernel_rfl) (by kernel_rfl) (by kernel_rfl) (by decide) (fun _ _ _ h => h) (by rfl) ?_ (by assumption) ?_
  rotate_left
  · intro w'
    go_simp
    try with_reducible rfl
  try simp only [Act.put, List.setIfInBounds_toArray, List.set_cons_zero, List.set_cons_succ]
  refine pickL (v := ?_) 3 (some 14) rfl rfl (by kernel_rfl) (by kernel_rfl) (by kernel_rfl) (by decide) (by kernel_rfl) (by kernel_rfl) (fun _ _ _ h => h) (by rfl) ?_ (by assumption) ?_
  rotate_left
  · intro w' hSw
    obtain ⟨q0, q1, q2, q3, q4⟩ := hSw
    go_simp
    try with_reducible rfl
  try simp only [Act.put, List.setIfInBounds_toArray, List.set_cons_zero, List.set_cons_succ]
  refine pickA (v := ?_) 4 (some 15) rfl rfl (by kernel_rfl) (by kernel_rfl) (by kernel_rfl) (by decide) (fun _ _ _ h => h) (by rfl) ?_ (by assumption) ?_
  rotate_left
  · intro w'
    go_simp
    try with_reducible rfl
  try simp only [Act.put, List.setIfInBounds_toArray, List.set_cons_zero, List.set_cons_succ]
  refine pickA (v := ?_) 5 (some 16) rfl rfl (by kernel_rfl) (by kernel_rfl) (by kernel_rfl) (by decide) (fun _ _ _ h => h) (by rfl) ?_ (by assumption) ?_
  rotate_left
  · intro w'
    go_simp
    try with_reducible rfl
  try simp only [Act.put, List.setIfInBounds_toArray, List.set_cons_zero, List.set_cons_succ]
  refine pickA (v := ?_) 6 (some 17) rfl rfl (by kernel_rfl) (by kernel_rfl) (by kernel_rfl) (by decide) (fun _ _ _ h => h) (by rfl) ?_ (by assumption) ?_
  rotate_left
  · intro w'
    go_simp
    try with_reducible rfl
  try simp only [Act.put, List.setIfInBounds_toArray, List.set_cons_zero, List.set_cons_succ]
  refine pickA (v := ?_) 7 (some 18) rfl rfl (by kernel_rfl) (by kernel_rfl) (by kernel_rfl) (by decide) (fun _ _ _ h => h) (by rfl) ?_ (by assumption) ?_
  rotate_left
  · intro w'
    go_simp
    try with_reducible rfl
  try simp only [Act.put, List.setIfInBounds_toArray, List.set_cons_zero, List.set_cons_succ]
  refine pickA (v := ?_) 8 (some 19) rfl rfl (by kernel_rfl) (by kernel_rfl) (by kernel_rfl) (by decide) (fun _ _ _ h => h) (by rfl) ?_ (by assumption) ?_
  rotate_left
  · intro w'
    go_simp
    try with_reducible rfl
  try simp only [Act.put, List.setIfInBounds_toArray, List.set_cons_zero, List.set_cons_succ]
  refine pickL (v := ?_) 9 (some 20) rfl rfl (by kernel_rfl) (by kernel_rfl) (by kernel_rfl) (by decide) (by kernel_rfl) (by kernel_rfl) (fun _ _ _ h => h) (by rfl) ?_ (by assumption) ?_
  rotate_left
  · intro w' hSw
    obtain ⟨q0, q1, q2, q3, q4⟩ := hSw
    go_simp
    try with_reducible rfl
  try simp only [Act.put, List.setIfInBounds_toArray, List.set_cons_zero, List.set_cons_succ]
  refine pickL (v := ?_) 10 (some 21) rfl rfl (by kernel_rfl) (by kernel_rfl) (by kernel_rfl) (by decide) (by kernel_rfl) (by kernel_rfl) (fun _ _ _ h => h) (by rfl) ?_ (by assumption) ?_
  rotate_left
  · intro w' hSw
    obtain ⟨q0, q1, q2, q3, q4⟩ := hSw
    go_simp
    try with_reducible rfl
  try simp only [Act.put, List.setIfInBounds_toArray, List.set_cons_zero, List.set_cons_succ]
  refine pickA (v := .bool false) 11 (some 22) rfl rfl (by kernel_rfl) (by kernel_rfl) (by kernel_rfl) (by decide) (fun _ _ _ h => h) (by rfl) ?_ (by assumption) ?_
  · intro w'
    go_simp
    simp [hxy.out.1, hxy.out.2]
  try simp only [Act.put, List.setIfInBounds_toArray, List.set_cons_zero, List.set_cons_succ]
  refine pickA (v := ?_) 12 (some 23) rfl rfl (by kernel_rfl) (by kernel_rfl) (by kernel_rfl) (by decide) (fun _ _ _ h => h) (by rfl) ?_ (by assumption) ?_
  rotate_left
  · intro w'
    go_simp
    try with_reducible rfl
  try simp only [Act.put, List.setIfInBounds_toArray, List.set_cons_zero, List.set_cons_succ]
  refine doneL (by kernel_rfl) ?_ _
  clear hHeld
  have LD := hide (L2.out.below ((Below.refl w2.heap.size w2).drew))
  have FD := hide (F2.out.below ((Below.refl w2.heap.size w2).drew))
  have BD := hide (B2.out.drew)
  clear L2 J2 F2 B2 hC c0 c1 c2 c3 j0 j1
  generalize w2.drew = w3 at *
  have a0 := FD.out.cell 0
  have a1 := FD.out.cell 1
  have f0 := FD.out.free 0
  have f1 := FD.out.free 1
  have hlt : H + 1 < w3.heap.size := FD.out.lt
  simp at a0 a1
  have hbH : Hid (b ≠ H + 1) := fun e => by
    have h1 := h0.out.blk.lt
    have := hH.out
    omega
  have hB := hide LD.out.cons
  have c0 := hB.out.cell 0
  have c1 := hB.out.cell 1
  have c2 := hB.out.cell 2
  have c3 := hB.out.cell 3
  have g0 := hB.out.free 0
  have g1 := hB.out.free 1
  have g2 := hB.out.free 2
  simp at c0 c1 c2 c3
  have hbne := hbH.out
  have hbne2 := Ne.symm hbne
  go_wp2
  have hW : ∀ W4 : World, W4 = ((w3.setCell ⟨b, 0, none⟩ (.bool false)).setCell ⟨b, 1, none⟩ (.int .i64 0)).setCell ⟨b, 2, none⟩ (.int .i64 0) → IsB W4 (H + 1) #[.int .i64 0, .int .i64 0] 27 ∧ Kp [b] w3 W4 ∧ IsB W4 b #[.bool false, .int .i64 0, .int .i64 0, .slice va 0 vc] 30 := by
    rintro W4 rfl
    refine ⟨((FD.out.setOther (Ne.symm hbH.out) _).setOther (Ne.symm hbH.out) _).setOther (Ne.symm hbH.out) _, (((Kp.refl [b] w3).set _ _ (Or.inl (by simp))).set _ _ (Or.inl (by simp))).set _ _ (Or.inl (by simp)), ?_⟩
    have := ((hB.out.set 0 (.bool false)).set 1 (.int .i64 0)).set 2 (.int .i64 0)
    simpa using this
  generalize hw4 : ((w3.setCell ⟨b, 0, none⟩ (.bool false)).setCell ⟨b, 1, none⟩ (.int .i64 0)).setCell ⟨b, 2, none⟩ (.int .i64 0) = W4
  obtain ⟨hF, hk, hI⟩ := hW W4 hw4.symm
  refine ret_o2 (p := 4) (u := 5) (t := 6) (b := H + 1) Try.results24 rfl rfl rfl (put2_is hF (.int .i64 0) (.int .i64 0)) ?_
  have hk2 : Kp [b, H + 1] w3 (put2 W4 (H + 1) (.int .i64 0) (.int .i64 0)) := (hk.mono (T := [b, H + 1]) (by simp)).trans (put2_kp W4 (H + 1) _ _) (by simp)
  have hv : ∀ q, (Value.slice va 0 vc).ownBlock = some q → q ∉ [b, H + 1] := fun q hq => by
    have h1 := LD.out.apart q hq
    have h2 := (h0.out.row.lt q hq).1
    have := hH.out
    simp
    omega
  refine ⟨rfl, .slice va 0 vc, ⟨?_, LD.out.row.kp hk2 hv, by simp⟩, (Kp.trans (Kp.of_below (S := [b]) BD.out) hk2 (by have := hH.out; simp; omega)), fun q hq => Or.inl hq⟩
  exact hI.kp (put2_kp W4 (H + 1) _ _) (by simp; exact hbH.out)

set_option maxHeartbeats 4000000 in
set_option maxRecDepth 100000 in
theorem rfree_next (b : Nat) (v : Value) (x y x2 y2 : Int) (tl : List Ow) (w : World) (a o : Int) (h : RS w b v ((x, y) :: (x2, y2) :: tl)) (hok : okO a o = true) (hxy : x = a ∧ y = o) : Calls Try.prog 24 #[.pointer (some ⟨b, 0, none⟩), .agg #[.int .i64 a, .int .i64 o]] w fun e w' => e = .returned (.tuple #[.agg #[.int .i64 x2, .int .i64 y2], .bool true, .int .i64 0]) ∧ ∃ v', Rx w w' b v v' ((x2, y2) :: tl) := by
  replace hxy := hide hxy
  have mixed : Try.prog.follows .mixedOrders = true := by kernel_rfl
  have bel0 : Below w.heap.size w ((w.alloc (.cells #[.int .i64 a, .int .i64 o] 27)).alloc (.cells #[.int .i64 0, .int .i64 0] 27)) := ((Below.refl w.heap.size w).alloc (Nat.le_refl _) (.cells #[.int .i64 a, .int .i64 o] 27)).alloc (by simp) (.cells #[.int .i64 0, .int .i64 0] 27)
  have L1 := hide (h.below bel0)
  have J1 := hide ((IsB.new w #[.int .i64 a, .int .i64 o] 27).below ((Below.refl _ _).alloc (Nat.le_refl _) (.cells #[.int .i64 0, .int .i64 0] 27)))
  have F1 := IsB.new (w.alloc (.cells #[.int .i64 a, .int .i64 o] 27)) #[.int .i64 0, .int .i64 0] 27
  rw [World.size_alloc] at F1
  replace F1 := hide F1
  have B1 := hide bel0
  have hlen := h.len
  obtain ⟨va, vc, rfl⟩ := h.nat
  replace hok := hide hok
  have h0 := hide h
  clear bel0 h
  simp only [List.tail_cons, List.length_cons] at *
  generalize hn : tl.length + 1 = n at *
  replace hn := hide hn
  go_enter Try.func24, Try.ntmps24
  go_wp2_with fail
  refine (isOwner_any a o _).mono ?_; rintro e w2 ⟨rfl, hb⟩
  rw [hok.out]
  have L2 := hide (L1.out.below hb)
  have J2 := hide (J1.out.below hb)
  have F2 := hide (F1.out.below hb)
  have B2 := hide (B1.out.trans (hb.mono B1.out.size))
  clear hb L1 J1 B1 F1
  generalize hH : w.heap.size = H at J2 F2 ⊢
  replace hH := hide hH
  have hC := hide L2.out.cons
  have c0 := hC.out.cell 0
  have c1 := hC.out.cell 1
  have c2 := hC.out.cell 2
  have c3 := hC.out.cell 3
  have j0 := J2.out.cell 0
  have j1 := J2.out.cell 1
  simp at c0 c1 c2 c3 j0 j1
  go_wp2
  refine regionL 13 (fun w' => w'.cell? ⟨b, 0, none⟩ = some (.bool true) ∧ w'.cell? ⟨b, 1, none⟩ = some (.int .i64 x) ∧ w'.cell? ⟨b, 2, none⟩ = some (.int .i64 y) ∧ w'.cell? ⟨H, 0, none⟩ = some (.int .i64 a) ∧ w'.cell? ⟨H, 1, none⟩ = some (.int .i64 o)) mixed ⟨c0, c1, c2, j0, j1⟩ (fun hHeld => ?_)
  refine pickA (v := ?_) 0 (some 11) rfl rfl (by kernel_rfl) (by kernel_rfl) (by kernel_rfl) (by decide) (fun _ _ _ h => h) (by rfl) ?_ (by assumption) ?_
  rotate_left
  · intro w'
    go_simp
    try with_reducible rfl
  try simp only [Act.put, List.setIfInBounds_toArray, List.set_cons_zero, List.set_cons_succ]
  refine pickA (v := ?_) 1 (some 12) rfl rfl (by kernel_rfl) (by kernel_rfl) (by kernel_rfl) (by decide) (fun _ _ _ h => h) (by rfl) ?_ (by assumption) ?_
  rotate_left
  · intro w'
    go_simp
    try with_reducible rfl
  try simp only [Act.put, List.setIfInBounds_toArray, List.set_cons_zero, List.set_cons_succ]
  refine pickA (v := ?_) 2 (some 13) rfl rfl (by kernel_rfl) (by kernel_rfl) (by kernel_rfl) (by decide) (fun _ _ _ h => h) (by rfl) ?_ (by assumption) ?_
  rotate_left
  · intro w'
    go_simp
    try with_reducible rfl
  try simp only [Act.put, List.setIfInBounds_toArray, List.set_cons_zero, List.set_cons_succ]
  refine pickL (v := ?_) 3 (some 14) rfl rfl (by kernel_rfl) (by kernel_rfl) (by kernel_rfl) (by decide) (by kernel_rfl) (by kernel_rfl) (fun _ _ _ h => h) (by rfl) ?_ (by assumption) ?_
  rotate_left
  · intro w' hSw
    obtain ⟨q0, q1, q2, q3, q4⟩ := hSw
    go_simp
    try with_reducible rfl
  try simp only [Act.put, List.setIfInBounds_toArray, List.set_cons_zero, List.set_cons_succ]
  refine pickA (v := ?_) 4 (some 15) rfl rfl (by kernel_rfl) (by kernel_rfl) (by kernel_rfl) (by decide) (fun _ _ _ h => h) (by rfl) ?_ (by assumption) ?_
  rotate_left
  · intro w'
    go_simp
    try with_reducible rfl
  try simp only [Act.put, List.setIfInBounds_toArray, List.set_cons_zero, List.set_cons_succ]
  refine pickA (v := ?_) 5 (some 16) rfl rfl (by kernel_rfl) (by kernel_rfl) (by kernel_rfl) (by decide) (fun _ _ _ h => h) (by rfl) ?_ (by assumption) ?_
  rotate_left
  · intro w'
    go_simp
    try with_reducible rfl
  try simp only [Act.put, List.setIfInBounds_toArray, List.set_cons_zero, List.set_cons_succ]
  refine pickA (v := ?_) 6 (some 17) rfl rfl (by kernel_rfl) (by kernel_rfl) (by kernel_rfl) (by decide) (fun _ _ _ h => h) (by rfl) ?_ (by assumption) ?_
  rotate_left
  · intro w'
    go_simp
    try with_reducible rfl
  try simp only [Act.put, List.setIfInBounds_toArray, List.set_cons_zero, List.set_cons_succ]
  refine pickA (v := ?_) 7 (some 18) rfl rfl (by kernel_rfl) (by kernel_rfl) (by kernel_rfl) (by decide) (fun _ _ _ h => h) (by rfl) ?_ (by assumption) ?_
  rotate_left
  · intro w'
    go_simp
    try with_reducible rfl
  try simp only [Act.put, List.setIfInBounds_toArray, List.set_cons_zero, List.set_cons_succ]
  refine pickA (v := ?_) 8 (some 19) rfl rfl (by kernel_rfl) (by kernel_rfl) (by kernel_rfl) (by decide) (fun _ _ _ h => h) (by rfl) ?_ (by assumption) ?_
  rotate_left
  · intro w'
    go_simp
    try with_reducible rfl
  try simp only [Act.put, List.setIfInBounds_toArray, List.set_cons_zero, List.set_cons_succ]
  refine pickL (v := ?_) 9 (some 20) rfl rfl (by kernel_rfl) (by kernel_rfl) (by kernel_rfl) (by decide) (by kernel_rfl) (by kernel_rfl) (fun _ _ _ h => h) (by rfl) ?_ (by assumption) ?_
  rotate_left
  · intro w' hSw
    obtain ⟨q0, q1, q2, q3, q4⟩ := hSw
    go_simp
    try with_reducible rfl
  try simp only [Act.put, List.setIfInBounds_toArray, List.set_cons_zero, List.set_cons_succ]
  refine pickL (v := ?_) 10 (some 21) rfl rfl (by kernel_rfl) (by kernel_rfl) (by kernel_rfl) (by decide) (by kernel_rfl) (by kernel_rfl) (fun _ _ _ h => h) (by rfl) ?_ (by assumption) ?_
  rotate_left
  · intro w' hSw
    obtain ⟨q0, q1, q2, q3, q4⟩ := hSw
    go_simp
    try with_reducible rfl
  try simp only [Act.put, List.setIfInBounds_toArray, List.set_cons_zero, List.set_cons_succ]
  refine pickA (v := .bool false) 11 (some 22) rfl rfl (by kernel_rfl) (by kernel_rfl) (by kernel_rfl) (by decide) (fun _ _ _ h => h) (by rfl) ?_ (by assumption) ?_
  · intro w'
    go_simp
    simp [hxy.out.1, hxy.out.2]
  try simp only [Act.put, List.setIfInBounds_toArray, List.set_cons_zero, List.set_cons_succ]
  refine pickA (v := ?_) 12 (some 23) rfl rfl (by kernel_rfl) (by kernel_rfl) (by kernel_rfl) (by decide) (fun _ _ _ h => h) (by rfl) ?_ (by assumption) ?_
  rotate_left
  · intro w'
    go_simp
    try with_reducible rfl
  try simp only [Act.put, List.setIfInBounds_toArray, List.set_cons_zero, List.set_cons_succ]
  refine doneL (by kernel_rfl) ?_ _
  clear hHeld
  have LD := hide (L2.out.below ((Below.refl w2.heap.size w2).drew))
  have FD := hide (F2.out.below ((Below.refl w2.heap.size w2).drew))
  have BD := hide (B2.out.drew)
  clear L2 J2 F2 B2 hC c0 c1 c2 c3 j0 j1
  generalize w2.drew = w3 at *
  have a0 := FD.out.cell 0
  have a1 := FD.out.cell 1
  have f0 := FD.out.free 0
  have f1 := FD.out.free 1
  have hlt : H + 1 < w3.heap.size := FD.out.lt
  simp at a0 a1
  have hbH : Hid (b ≠ H + 1) := fun e => by
    have h1 := h0.out.blk.lt
    have := hH.out
    omega
  have hR : Rw w3 27 2 (.slice va n vc) n (ows ((x2, y2) :: tl)) := by
    have := LD.out.row
    simp only [List.tail_cons, List.length_cons, hn.out] at this
    exact this
  obtain ⟨g, cap, hgv, hcap, hmax, -⟩ := hR.form (by have := hn.out; omega)
  injection hgv with hgv hgn hgc
  clear hgn
  subst hgv hgc
  have hgb : Hid (g ≠ b) := LD.out.apart g rfl
  have hgH : Hid (g ≠ H + 1) := by
    have h2 := (h0.out.row.lt g rfl).1
    have := hH.out
    show g ≠ H + 1
    omega
  have r0 := hR.cellAt 0 (by have := hn.out; omega)
  have r1 := hR.cellAt 1 (by have := hn.out; omega)
  simp [ows] at r0 r1
  have hR' := hide hR
  clear hR
  have hB := hide LD.out.cons
  have c0 := hB.out.cell 0
  have c1 := hB.out.cell 1
  have c2 := hB.out.cell 2
  have c3 := hB.out.cell 3
  have g1 := hB.out.free 1
  have g2 := hB.out.free 2
  simp at c0 c1 c2 c3
  have hbne := hbH.out
  have hbne2 := Ne.symm hbne
  have hgne := hgb.out
  have hgne2 := Ne.symm hgne
  have hblt : b < w3.heap.size := LD.out.blk.lt
  have htl : Hid (tl.length = n - 1) := by show _ = _; have := hn.out; omega
  have hn1 : 1 ≤ n := by have := hn.out; omega
  have hn0 : ((n : Int) == 0) = false := by simp; omega
  have hT := Rw.tailSl (os := (x2, y2) :: tl) (by simpa [hn.out] using hR'.out) 1 (by simp)
  simp only [List.length_cons, List.drop_succ_cons, List.drop_zero, hn.out] at hT
  replace hT := hide hT
  have hk4 : Hid (Kp [b] w3 ((w3.setCell ⟨b, 1, none⟩ (.int .i64 x2)).setCell ⟨b, 2, none⟩ (.int .i64 y2))) := ((Kp.refl [b] w3).set _ _ (Or.inl (by simp))).set _ _ (Or.inl (by simp))
  have hI4 : Hid (IsB ((w3.setCell ⟨b, 1, none⟩ (.int .i64 x2)).setCell ⟨b, 2, none⟩ (.int .i64 y2)) b #[.bool true, .int .i64 x2, .int .i64 y2, .slice (some ⟨g, 0, none⟩) n vc] 30) := by
    have := (hB.out.set 1 (.int .i64 x2)).set 2 (.int .i64 y2)
    refine hide ?_
    simpa using this
  have hF4 := hide (FD.out.kp hk4.out (by simp; exact Ne.symm hbH.out))
  have hz4 : Hid (((w3.setCell ⟨b, 1, none⟩ (.int .i64 x2)).setCell ⟨b, 2, none⟩ (.int .i64 y2)).heap.size = w3.heap.size) := by show _ = _; simp [World.setCell]
  have fin6 : Hid (∀ (x : Value), Sl w3 x tl → (∀ k, x.ownBlock = some k → k ≠ b) → ∃ ta tc W6, (Builtin.append_ #[28, 28] 28 #[.slice (some ⟨w3.heap.size, 0, none⟩) 0 0, x]).run Try.prog (((w3.setCell ⟨b, 1, none⟩ (.int .i64 x2)).setCell ⟨b, 2, none⟩ (.int .i64 y2)).alloc (.cells #[] 27)) = .ok (.slice ta (n - 1) tc) W6 ∧ Rw W6 27 2 (.slice ta (n - 1) tc) (n - 1) (ows tl) ∧ (∀ k, (Value.slice ta (n - 1) tc).ownBlock = some k → w3.heap.size ≤ k) ∧ Below ((w3.setCell ⟨b, 1, none⟩ (.int .i64 x2)).setCell ⟨b, 2, none⟩ (.int .i64 y2)).heap.size ((w3.setCell ⟨b, 1, none⟩ (.int .i64 x2)).setCell ⟨b, 2, none⟩ (.int .i64 y2)) W6) := fun x hx hxb => by
    have bel5 := (Below.refl _ ((w3.setCell ⟨b, 1, none⟩ (.int .i64 x2)).setCell ⟨b, 2, none⟩ (.int .i64 y2))).alloc (Nat.le_refl _) (.cells #[] 27)
    have hp5 := IsB.new ((w3.setCell ⟨b, 1, none⟩ (.int .i64 x2)).setCell ⟨b, 2, none⟩ (.int .i64 y2)) #[] 27
    have hsz := hz4.out
    obtain ⟨ta, tc, W6, h1, h2, h3, h4⟩ := run_clone hp5 ((hx.kp hk4.out (fun k hk => by simp; exact hxb k hk)).below bel5) (by rw [htl.out]; omega) 28
    rw [htl.out] at h1 h2 h3
    rw [hsz] at h1
    refine ⟨ta, tc, W6, h1, h2, fun k hk => ?_, bel5.grown h4 (by simp) (fun k hk => by simp at hk; omega)⟩
    rcases h3 k hk with h | h
    · omega
    · simp [World.setCell] at h; omega
  clear hmax
  obtain ⟨W4', hW4'⟩ : ∃ W4', W4' = ((w3.setCell ⟨b, 1, none⟩ (.int .i64 x2)).setCell ⟨b, 2, none⟩ (.int .i64 y2)) := ⟨_, rfl⟩
  by_cases hc1 : vc = 1
  · subst hc1
    obtain rfl : n = 1 := by omega
    obtain ⟨ta, tc, W6, hrun, hrw, hat, hb6⟩ := fin6.out (.slice (some ⟨g, 0, none⟩) 0 0) (by simpa using hT.out) (fun k hk => by simp [Value.ownBlock] at hk; subst hk; exact hgb.out)
    clear fin6
    simp only [Nat.sub_self] at hrun hrw hat
    have I6 := hide (hI4.out.below hb6)
    have F6 := hide (hF4.out.below hb6)
    have d1 := I6.out.cell 1
    have d2 := I6.out.cell 2
    have d3 := I6.out.cell 3
    have e3 := I6.out.free 3
    have u0 := F6.out.cell 0
    have u1 := F6.out.cell 1
    have v0 := F6.out.free 0
    have v1 := F6.out.free 1
    simp at d1 d2 d3 u0 u1
    replace hrw := hide hrw
    replace hat := hide hat
    replace hb6 := hide hb6
    clear a0 a1 f0 f1 hW4' W4'
    go_wp2_with (at_builtin; refine wpList_append_eq rfl (.tmp 49) (.tmp 54) 28 rfl _ _ (.slice ta 0 tc) W6 rfl rfl hrun ?_)
    have hI7 : IsB (W6.setCell ⟨b, 3, none⟩ (.slice ta 0 tc)) b #[.bool true, .int .i64 x2, .int .i64 y2, .slice ta 0 tc] 30 := by
      have := I6.out.set 3 (.slice ta 0 tc)
      simpa using this
    have hF7 : IsB (W6.setCell ⟨b, 3, none⟩ (.slice ta 0 tc)) (H + 1) #[.int .i64 0, .int .i64 0] 27 := F6.out.setOther (Ne.symm hbH.out) _
    refine ret_o2 (p := 4) (u := 5) (t := 6) (b := H + 1) Try.results24 rfl rfl rfl (put2_is hF7 (.int .i64 x2) (.int .i64 y2)) ?_
    have hkA : Kp [b] w (W6.setCell ⟨b, 3, none⟩ (.slice ta 0 tc)) := (Kp.trans (Kp.trans (Kp.of_below (S := [b]) BD.out) hk4.out (by simp)) (Kp.of_below (S := []) hb6.out) (by simp)).set _ _ (Or.inl (by simp))
    refine ⟨rfl, .slice ta 0 tc, ⟨?_, ?_, by simp; have := hn.out; omega⟩, hkA.trans (put2_kp _ (H + 1) _ _) (by have := hH.out; simp; omega), fun q hq => Or.inr (Nat.le_trans BD.out.size (hat.out q hq))⟩
    · have := hI7.kp (put2_kp _ (H + 1) (.int .i64 x2) (.int .i64 y2)) (by simp; exact hbH.out)
      exact this
    · have h1 := hrw.out.kept (w' := W6.setCell ⟨b, 3, none⟩ (.slice ta 0 tc)) fun k hk => Below.heap_setCell _ _ _ _ (fun e => by
        have h1 := hat.out k hk
        have h2 := LD.out.blk.lt
        simp only [] at e
        omega)
      have h2 := h1.kp (put2_kp (W6.setCell ⟨b, 3, none⟩ (.slice ta 0 tc)) (H + 1) (.int .i64 x2) (.int .i64 y2)) (fun k hk => by
        have h1 := hat.out k hk
        simp
        omega)
      show Rw _ _ _ _ tl.length _
      rw [htl.out]
      exact h2
  · obtain ⟨ta, tc, W6, hrun, hrw, hat, hb6⟩ := fin6.out (.slice (some ⟨g, 2, none⟩) (n - 1) (vc - 1)) (by have := hT.out; rw [if_neg hc1] at this; simpa using this) (fun k hk => by simp [Value.ownBlock] at hk; subst hk; exact hgb.out)
    clear fin6
    have I6 := hide (hI4.out.below hb6)
    have F6 := hide (hF4.out.below hb6)
    have d1 := I6.out.cell 1
    have d2 := I6.out.cell 2
    have d3 := I6.out.cell 3
    have e3 := I6.out.free 3
    have u0 := F6.out.cell 0
    have u1 := F6.out.cell 1
    have v0 := F6.out.free 0
    have v1 := F6.out.free 1
    simp at d1 d2 d3 u0 u1
    replace hrw := hide hrw
    replace hat := hide hat
    replace hb6 := hide hb6
    clear a0 a1 f0 f1 hW4' W4'
    go_wp2_with (at_builtin; refine wpList_append_eq rfl (.tmp 49) (.tmp 54) 28 rfl _ _ (.slice ta (n - 1) tc) W6 rfl rfl hrun ?_)
    have hI7 : IsB (W6.setCell ⟨b, 3, none⟩ (.slice ta (n - 1) tc)) b #[.bool true, .int .i64 x2, .int .i64 y2, .slice ta (n - 1) tc] 30 := by
      have := I6.out.set 3 (.slice ta (n - 1) tc)
      simpa using this
    have hF7 : IsB (W6.setCell ⟨b, 3, none⟩ (.slice ta (n - 1) tc)) (H + 1) #[.int .i64 0, .int .i64 0] 27 := F6.out.setOther (Ne.symm hbH.out) _
    refine ret_o2 (p := 4) (u := 5) (t := 6) (b := H + 1) Try.results24 rfl rfl rfl (put2_is hF7 (.int .i64 x2) (.int .i64 y2)) ?_
    have hkA : Kp [b] w (W6.setCell ⟨b, 3, none⟩ (.slice ta (n - 1) tc)) := (Kp.trans (Kp.trans (Kp.of_below (S := [b]) BD.out) hk4.out (by simp)) (Kp.of_below (S := []) hb6.out) (by simp)).set _ _ (Or.inl (by simp))
    refine ⟨rfl, .slice ta (n - 1) tc, ⟨?_, ?_, by simp; have := hn.out; omega⟩, hkA.trans (put2_kp _ (H + 1) _ _) (by have := hH.out; simp; omega), fun q hq => Or.inr (Nat.le_trans BD.out.size (hat.out q hq))⟩
    · have := hI7.kp (put2_kp _ (H + 1) (.int .i64 x2) (.int .i64 y2)) (by simp; exact hbH.out)
      exact this
    · have h1 := hrw.out.kept (w' := W6.setCell ⟨b, 3, none⟩ (.slice ta (n - 1) tc)) fun k hk => Below.heap_setCell _ _ _ _ (fun e => by
        have h1 := hat.out k hk
        have h2 := LD.out.blk.lt
        simp only [] at e
        omega)
      have h2 := h1.kp (put2_kp (W6.setCell ⟨b, 3, none⟩ (.slice ta (n - 1) tc)) (H + 1) (.int .i64 x2) (.int .i64 y2)) (fun k hk => by
        have h1 := hat.out k hk
        simp
        omega)
      show Rw _ _ _ _ tl.length _
      rw [htl.out]
      exact h2

end Go.Proofs.Ytapknlmplhjfeaa
