/- sort.Search; place, and how many of a row are not above a key. -/
import Derived.Test.YtfnpapaibgbjpaaZA
namespace Go.Proofs.Ytfnpapaibgbjpaa
open Go.RowKit Go.Maps

set_option maxHeartbeats 4000000 in
set_option maxRecDepth 100000 in
theorem search_any (f : Nat) (eg : ∀ args w, (callFunc f args).run Try.prog w = .ok (.enter f args) w) (p1 p2 : Value) (n : Nat) (hn : n ≤ 100000) (p : Nat → Bool) (hmono : ∀ i j, i ≤ j → j < n → p i = true → p j = true) (w : World)
    (hf : ∀ W, Below w.heap.size w W → ∀ h : Nat, h < n → Calls Try.prog f #[.int .i64 (h : Int), p1, p2] W fun e W' => e = .returned (.bool (p h)) ∧ Below W.heap.size W W') :
    Calls Try.prog 50 #[.int .i64 (n : Int), .func (.func f) #[] #[p1, p2]] w fun e w' => ∃ i : Nat, e = .returned (.int .i64 (i : Int)) ∧ i ≤ n ∧ (∀ q, q < i → p q = false) ∧ (∀ q, i ≤ q → q < n → p q = true) ∧ Below w.heap.size w w' := by
  have HF := hide hf
  have HM := hide hmono
  clear hf hmono
  go_enter Try.func50, Try.ntmps50
  go_wp2
  go_loopw [5, 6] (fun i j wr => ∃ i' j' : Nat, i' ≤ j' ∧ j' ≤ n ∧ i = .int .i64 (i' : Int) ∧ j = .int .i64 (j' : Int) ∧ Hid (Below w.heap.size w wr) ∧ Hid (∀ q, q < i' → p q = false) ∧ Hid (∀ q, j' ≤ q → q < n → p q = true)) (fun i j _ => (intOf j).toNat - (intOf i).toNat)
  case atStart => exact ⟨0, n, by omega, by omega, rfl, rfl, Below.refl _ _, fun q h => by omega, fun q h1 h2 => by omega⟩
  case round =>
    obtain ⟨i, j, hij, hjn, rfl, rfl, HB, HI, HJ⟩ := hrel
    by_cases hlt : i < j
    · obtain ⟨h, hh⟩ : ∃ h, h = (i + j) / 2 := ⟨_, rfl⟩
      have hw1 : IntKind.i64.wrap ((i : Int) + (j : Int)) = ((i + j : Nat) : Int) := by rw [IntKind.wrap_i64]; omega
      have hcast : ((i : Int) + (j : Int)) / 2 = (h : Int) := by omega
      have HC := hide (HF.out wr HB.out h (by omega))
      have HH := hide hh
      have hin : h < j := by omega
      have hih : i ≤ h := by omega
      cases hp : p h with
      | false =>
        rw [hp] at HC
        have HI2 : Hid (∀ q, q < h + 1 → p q = false) := fun q hq => by
          cases hpq : p q with
          | false => rfl
          | true => 
            have := HM.out q h (by omega) (by omega) hpq
            rw [hp] at this; cases this
        clear hh
        go_wp2_with (go_at_fn f; refine HC.out.mono ?_; (rintro e w1 ⟨rfl, hb⟩); replace hb := hide hb)
        exact ⟨⟨h + 1, j, by omega, by omega, by simp, rfl, HB.out.trans (hb.out.mono HB.out.size), HI2, HJ⟩, by simp [intOf]; omega⟩
      | true =>
        rw [hp] at HC
        have HJ2 : Hid (∀ q, h ≤ q → q < n → p q = true) := fun q h1 h2 => HM.out h q h1 h2 hp
        clear hh
        go_wp2_with (go_at_fn f; refine HC.out.mono ?_; (rintro e w1 ⟨rfl, hb⟩); replace hb := hide hb)
        exact ⟨⟨i, h, by omega, by omega, rfl, rfl, HB.out.trans (hb.out.mono HB.out.size), HI, HJ2⟩, by simp [intOf]; omega⟩
    · go_wp2
      go_ret
      exact ⟨i, rfl, by omega, HI.out, fun q h1 h2 => HJ.out q (by omega) h2, HB.out⟩

set_option maxHeartbeats 4000000 in
set_option maxRecDepth 100000 in
theorem place1_any (L K0 g k n c j : Nat) (x y : Int) (w : World) (hj : j < n) (h0 : w.cell? ⟨L, 0, none⟩ = some (.slice (some ⟨g, k, none⟩) n c)) (h1 : w.cell? ⟨K0, 0, none⟩ = some (.int .u64 x)) (h2 : w.cell? ⟨g, k + j * 2, none⟩ = some (.int .u64 y)) :
    Calls Try.prog 51 #[.int .i64 (j : Int), .pointer (some ⟨L, 0, none⟩), .pointer (some ⟨K0, 0, none⟩)] w fun e w' => e = .returned (.bool (decide (x ≤ y))) ∧ Below w.heap.size w w' := by
  have mixed : Try.prog.follows .mixedOrders = true := by kernel_rfl
  have fin := hide ((Below.refl w.heap.size w).drew)
  go_enter Try.func51, Try.ntmps51
  go_wp2
  refine regionL 8 (fun w' => w'.cell? ⟨L, 0, none⟩ = some (.slice (some ⟨g, k, none⟩) n c) ∧ w'.cell? ⟨K0, 0, none⟩ = some (.int .u64 x) ∧ w'.cell? ⟨g, k + j * 2, none⟩ = some (.int .u64 y)) mixed ⟨h0, h1, h2⟩ (fun hHeld => ?_)
  refine pickL (v := ?_) 0 (some 5) rfl rfl (by kernel_rfl) (by kernel_rfl) (by kernel_rfl) (by decide) (by kernel_rfl) (by kernel_rfl) (fun _ _ _ h => h) (by rfl) ?_ (by assumption) ?_
  rotate_left
  · intro w' hSw
    obtain ⟨q0, q1, q2⟩ := hSw
    go_simp
    try with_reducible rfl
  try simp only [Act.put, List.setIfInBounds_toArray, List.set_cons_zero, List.set_cons_succ]
  refine pickA (v := ?_) 1 (some 6) rfl rfl (by kernel_rfl) (by kernel_rfl) (by kernel_rfl) (by decide) (fun _ _ _ h => h) (by rfl) ?_ (by assumption) ?_
  rotate_left
  · intro w'
    go_simp
    try with_reducible rfl
  try simp only [Act.put, List.setIfInBounds_toArray, List.set_cons_zero, List.set_cons_succ]
  refine pickA (v := ?_) 2 (some 7) rfl rfl (by kernel_rfl) (by kernel_rfl) (by kernel_rfl) (by decide) (fun _ _ _ h => h) (by rfl) ?_ (by assumption) ?_
  rotate_left
  · intro w'
    go_simp
    try with_reducible rfl
  try simp only [Act.put, List.setIfInBounds_toArray, List.set_cons_zero, List.set_cons_succ]
  refine pickA (v := ?_) 3 (some 8) rfl rfl (by kernel_rfl) (by kernel_rfl) (by kernel_rfl) (by decide) (fun _ _ _ h => h) (by rfl) ?_ (by assumption) ?_
  rotate_left
  · intro w'
    go_simp
    try with_reducible rfl
  try simp only [Act.put, List.setIfInBounds_toArray, List.set_cons_zero, List.set_cons_succ]
  refine pickL (v := ?_) 4 (some 9) rfl rfl (by kernel_rfl) (by kernel_rfl) (by kernel_rfl) (by decide) (by kernel_rfl) (by kernel_rfl) (fun _ _ _ h => h) (by rfl) ?_ (by assumption) ?_
  rotate_left
  · intro w' hSw
    obtain ⟨q0, q1, q2⟩ := hSw
    go_simp
    try with_reducible rfl
  try simp only [Act.put, List.setIfInBounds_toArray, List.set_cons_zero, List.set_cons_succ]
  refine pickL (v := ?_) 5 (some 10) rfl rfl (by kernel_rfl) (by kernel_rfl) (by kernel_rfl) (by decide) (by kernel_rfl) (by kernel_rfl) (fun _ _ _ h => h) (by rfl) ?_ (by assumption) ?_
  rotate_left
  · intro w' hSw
    obtain ⟨q0, q1, q2⟩ := hSw
    go_simp
    try with_reducible rfl
  try simp only [Act.put, List.setIfInBounds_toArray, List.set_cons_zero, List.set_cons_succ]
  refine pickA (v := ?_) 6 (some 11) rfl rfl (by kernel_rfl) (by kernel_rfl) (by kernel_rfl) (by decide) (fun _ _ _ h => h) (by rfl) ?_ (by assumption) ?_
  rotate_left
  · intro w'
    go_simp
    try with_reducible rfl
  try simp only [Act.put, List.setIfInBounds_toArray, List.set_cons_zero, List.set_cons_succ]
  refine pickA (v := ?_) 7 (some 4) rfl rfl (by kernel_rfl) (by kernel_rfl) (by kernel_rfl) (by decide) (fun _ _ _ h => h) (by rfl) ?_ (by assumption) ?_
  rotate_left
  · intro w'
    go_simp
    try with_reducible rfl
  try simp only [Act.put, List.setIfInBounds_toArray, List.set_cons_zero, List.set_cons_succ]
  refine doneL (by kernel_rfl) ?_ _
  clear hHeld
  go_wp2
  go_ret
  exact ⟨rfl, fin.out⟩

set_option maxHeartbeats 4000000 in
set_option maxRecDepth 100000 in
theorem ranged1_any (L K0 g k n c j : Nat) (x y : Int) (w : World) (hj : j < n) (h0 : w.cell? ⟨L, 0, none⟩ = some (.slice (some ⟨g, k, none⟩) n c)) (h1 : w.cell? ⟨K0, 0, none⟩ = some (.int .u64 x)) (h2 : w.cell? ⟨g, k + j * 2, none⟩ = some (.int .u64 y)) :
    Calls Try.prog 52 #[.int .i64 (j : Int), .pointer (some ⟨L, 0, none⟩), .pointer (some ⟨K0, 0, none⟩)] w fun e w' => e = .returned (.bool (decide (x < y))) ∧ Below w.heap.size w w' := by
  have mixed : Try.prog.follows .mixedOrders = true := by kernel_rfl
  have fin := hide ((Below.refl w.heap.size w).drew)
  go_enter Try.func52, Try.ntmps52
  go_wp2
  refine regionL 8 (fun w' => w'.cell? ⟨L, 0, none⟩ = some (.slice (some ⟨g, k, none⟩) n c) ∧ w'.cell? ⟨K0, 0, none⟩ = some (.int .u64 x) ∧ w'.cell? ⟨g, k + j * 2, none⟩ = some (.int .u64 y)) mixed ⟨h0, h1, h2⟩ (fun hHeld => ?_)
  refine pickL (v := ?_) 0 (some 5) rfl rfl (by kernel_rfl) (by kernel_rfl) (by kernel_rfl) (by decide) (by kernel_rfl) (by kernel_rfl) (fun _ _ _ h => h) (by rfl) ?_ (by assumption) ?_
  rotate_left
  · intro w' hSw
    obtain ⟨q0, q1, q2⟩ := hSw
    go_simp
    try with_reducible rfl
  try simp only [Act.put, List.setIfInBounds_toArray, List.set_cons_zero, List.set_cons_succ]
  refine pickA (v := ?_) 1 (some 6) rfl rfl (by kernel_rfl) (by kernel_rfl) (by kernel_rfl) (by decide) (fun _ _ _ h => h) (by rfl) ?_ (by assumption) ?_
  rotate_left
  · intro w'
    go_simp
    try with_reducible rfl
  try simp only [Act.put, List.setIfInBounds_toArray, List.set_cons_zero, List.set_cons_succ]
  refine pickA (v := ?_) 2 (some 7) rfl rfl (by kernel_rfl) (by kernel_rfl) (by kernel_rfl) (by decide) (fun _ _ _ h => h) (by rfl) ?_ (by assumption) ?_
  rotate_left
  · intro w'
    go_simp
    try with_reducible rfl
  try simp only [Act.put, List.setIfInBounds_toArray, List.set_cons_zero, List.set_cons_succ]
  refine pickA (v := ?_) 3 (some 8) rfl rfl (by kernel_rfl) (by kernel_rfl) (by kernel_rfl) (by decide) (fun _ _ _ h => h) (by rfl) ?_ (by assumption) ?_
  rotate_left
  · intro w'
    go_simp
    try with_reducible rfl
  try simp only [Act.put, List.setIfInBounds_toArray, List.set_cons_zero, List.set_cons_succ]
  refine pickL (v := ?_) 4 (some 9) rfl rfl (by kernel_rfl) (by kernel_rfl) (by kernel_rfl) (by decide) (by kernel_rfl) (by kernel_rfl) (fun _ _ _ h => h) (by rfl) ?_ (by assumption) ?_
  rotate_left
  · intro w' hSw
    obtain ⟨q0, q1, q2⟩ := hSw
    go_simp
    try with_reducible rfl
  try simp only [Act.put, List.setIfInBounds_toArray, List.set_cons_zero, List.set_cons_succ]
  refine pickL (v := ?_) 5 (some 10) rfl rfl (by kernel_rfl) (by kernel_rfl) (by kernel_rfl) (by decide) (by kernel_rfl) (by kernel_rfl) (fun _ _ _ h => h) (by rfl) ?_ (by assumption) ?_
  rotate_left
  · intro w' hSw
    obtain ⟨q0, q1, q2⟩ := hSw
    go_simp
    try with_reducible rfl
  try simp only [Act.put, List.setIfInBounds_toArray, List.set_cons_zero, List.set_cons_succ]
  refine pickA (v := ?_) 6 (some 11) rfl rfl (by kernel_rfl) (by kernel_rfl) (by kernel_rfl) (by decide) (fun _ _ _ h => h) (by rfl) ?_ (by assumption) ?_
  rotate_left
  · intro w'
    go_simp
    try with_reducible rfl
  try simp only [Act.put, List.setIfInBounds_toArray, List.set_cons_zero, List.set_cons_succ]
  refine pickA (v := ?_) 7 (some 4) rfl rfl (by kernel_rfl) (by kernel_rfl) (by kernel_rfl) (by decide) (fun _ _ _ h => h) (by rfl) ?_ (by assumption) ?_
  rotate_left
  · intro w'
    go_simp
    try with_reducible rfl
  try simp only [Act.put, List.setIfInBounds_toArray, List.set_cons_zero, List.set_cons_succ]
  refine doneL (by kernel_rfl) ?_ _
  clear hHeld
  go_wp2
  go_ret
  exact ⟨rfl, fin.out⟩

end Go.Proofs.Ytfnpapaibgbjpaa
